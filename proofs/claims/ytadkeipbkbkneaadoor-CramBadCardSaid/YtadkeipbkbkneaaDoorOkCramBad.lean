/-
  The model's runs are what is told in Lean.
-/
import Derived.Test.YtadkeipbkbkneaaDoorProg
import Derived.KernelRfl
import Derived.Test.YtadkeipbkbkneaaDoorShelf
import Derived.Test.YtadkeipbkbkneaaDoorOkc2
set_option linter.unusedVariables false
set_option linter.unusedSimpArgs false
namespace Go.Proofs.YtadkeipbkbkneaaDoor
open Go.Abs Go.Abs.Sh

set_option maxHeartbeats 1000000 in
theorem ok_wherrylaw10_CramBad (mx : Int) (how : Int) (b : (List Int)) (r : Bool) (h : Sh.wherrylaw10_CramBad how b = some r) : FnG Tryd.prog (GL mx) 7 [.v (.int .i64 how), .fl .shr 1 (List.map (Value.int .u8) b)] (.v (.bool r)) := by
  unfold Sh.wherrylaw10_CramBad at h
  refine fn_okG Tryd.func7 rfl (Nat.le_of_ble_eq_true rfl) rfl rfl fun g0 hn hio => ?_
  refine ht_seq ?_
  refine ht_seqR hn (El := [_, _, _, (4, .v (.bool false))]) (init := [0, 1, 2]) (fin := [0, 1, 2]) (sps := [⟨[], [], [3], [(.slot 4)]⟩]) (es' := [(_, _), (_, _), (_, _)]) (by kernel_rfl) rfl rfl
   ⟨st_plain rfl (op_assign _ _ _ _ rfl rfl),
   trivial⟩ ?_
  refine pt_then ?_
  refine ht_seq ?_
  refine ht_seq ?_
  refine ht_seqR hn (El := [_, _, _, (13, .fl .shr 1 (List.map (Value.int .u8) b)), (14, .v (.int .i64 (b.length : Int))), (15, .v (.bool ((decide (60 < (b.length : Int))))))]) (init := [0, 1, 2]) (fin := [0, 1, 2, 5]) (sps := [⟨[1], [], [3], [(.slot 13)]⟩, ⟨[3], [], [4], [(.slot 14)]⟩, ⟨[4], [], [5], [(.slot 15)]⟩]) (es' := [(_, _), (_, _), (_, _), (15, .v (.bool ((decide (60 < (b.length : Int))))))]) (by kernel_rfl) rfl rfl
   ⟨st_plain rfl (op_move _ _ _ _ rfl rfl),
   st_plain rfl (op_len_fl _ _ _ Tryd.underlying22 rfl (by decide) (map_len _)),
   st_plain rfl (op_bin _ _ _ _ _ rfl rfl rfl),
   trivial⟩ ?_
  refine pt_then ?_
  refine ht_cond _ rfl (fun hb1 => ?_) (fun hb1 => ?_)
  ·have h := cond_t hb1 h
   refine ht_seq ?_
   refine ht_seqR hn (El := [_, _, _, _, (4, .v (.bool true))]) (init := [0, 1, 2, 3]) (fin := [2, 4]) (sps := [⟨[], [], [4], [(.slot 4)]⟩]) (es' := [(_, _), (4, .v (.bool true))]) (by kernel_rfl) rfl rfl
    ⟨st_plain rfl (op_assign _ _ _ _ rfl rfl),
    trivial⟩ ?_
   refine pt_then ?_
   refine ht_ret ?_
   refine pt_pick [1] (by kernel_rfl) (es' := [(_, _)]) rfl ?_
   refine pt_r_then ?_
   obtain rfl := Option.some.inj h
   exact pt_ret hio rfl (.tmp _ _ .nil) rfl rfl
  ·have h := cond_f hb1 h
   refine ht_skip ?_
   refine pt_then ?_
   refine ht_seq ?_
   obtain ⟨v2, hv2, h⟩ := bind_some h
   obtain ⟨v3, hv3, h⟩ := bind_some h
   obtain ⟨v4, hv4, h⟩ := bind_some h
   refine ht_seqR hn (El := [_, _, _, _, (16, .fl .shr 1 (List.map (Value.int .u8) b)), (17, .fl (.own 5) 1 (List.map (Value.int .u8) v2)), (18, .fl (.own 5) 1 (List.map (Value.int .u8) [1, 2, 3])), (19, .fl (.own 5) 1 (List.map (Value.int .u8) v3)), (17, .any), (20, .v (.string v4)), (5, .v (.string v4))]) (init := [0, 1, 2, 3]) (fin := [0, 2, 10]) (sps := [⟨[1], [], [4], [(.slot 16)]⟩, ⟨[4], [], [5], [(.slot 17)]⟩, ⟨[], [], [6], [(.slot 18)]⟩, ⟨[6], [5], [8, 7], [(.slot 19)]⟩, ⟨[7], [], [9], [(.slot 20)]⟩, ⟨[9], [], [10], [(.slot 5)]⟩]) (es' := [(_, _), (_, _), (5, .v (.string v4))]) (by kernel_rfl) rfl rfl
    ⟨st_plain rfl (op_move _ _ _ _ rfl rfl),
    st_plain rfl (op_call _ _ 8 _ _ rfl Tryd.call8 rfl (ok_wherrykeep_Twin b _ hv2) rfl rfl),
    st_plain rfl (op_buildSlice _ _ 1 (.int .u8 0) (List.map (Value.int .u8) [1, 2, 3]) [(0, .int .u8 1), (1, .int .u8 2), (2, .int .u8 3)] Tryd.underlying22 sz5 zr5 (fun _ V w o a hv hes => by simp only [List.map_toArray, List.map_cons, List.map_nil]; try rfl) (litfill (by simp [Instr.fill, Value.cells]; rfl) (by simp [List.range, List.range.loop] <;> rfl)) (by simp [Value.oneCell']) rfl (by decide) (by decide) (by decide)),
    st_plain rfl (op_app _ _ _ _ _ el22 rfl rfl (map_len _) (map_len _) hv3 ((List.map_append).symm.trans (congrArg (List.map _) (app_eq hv3)))),
    st_plain rfl (op_call _ _ 12 _ _ rfl Tryd.call12 rfl (ok_cram_Encode v3 _ hv4) rfl rfl),
    st_plain rfl (op_assign _ _ _ _ rfl rfl),
    trivial⟩ ?_
   refine pt_then ?_
   refine ht_seq ?_
   refine ht_seqR hn (El := [_, _, _, (21, .fl (.own 9) 1 (List.map Value.string ([(⟨#[89, 81, 61]⟩ : ByteArray), (⟨#[89, 82, 61, 61]⟩ : ByteArray), (⟨#[89, 87, 70, 61]⟩ : ByteArray), (⟨#[89, 61, 61, 61]⟩ : ByteArray), (⟨#[89, 32, 81, 61]⟩ : ByteArray), (⟨#[61, 89, 81, 61]⟩ : ByteArray), (⟨#[89, 81, 61, 61, 89, 81, 61, 61]⟩ : ByteArray), (⟨#[89, 95, 81, 61]⟩ : ByteArray), (⟨#[61, 61, 61, 61]⟩ : ByteArray), (⟨#[89, 81, 61, 10]⟩ : ByteArray)]))), (6, .fl (.own 9) 1 (List.map Value.string ([(⟨#[89, 81, 61]⟩ : ByteArray), (⟨#[89, 82, 61, 61]⟩ : ByteArray), (⟨#[89, 87, 70, 61]⟩ : ByteArray), (⟨#[89, 61, 61, 61]⟩ : ByteArray), (⟨#[89, 32, 81, 61]⟩ : ByteArray), (⟨#[61, 89, 81, 61]⟩ : ByteArray), (⟨#[89, 81, 61, 61, 89, 81, 61, 61]⟩ : ByteArray), (⟨#[89, 95, 81, 61]⟩ : ByteArray), (⟨#[61, 61, 61, 61]⟩ : ByteArray), (⟨#[89, 81, 61, 10]⟩ : ByteArray)])))]) (init := [0, 1, 2]) (fin := [0, 1, 2, 4]) (sps := [⟨[], [], [3], [(.slot 21)]⟩, ⟨[], [3], [4], [(.slot 6)]⟩]) (es' := [(_, _), (_, _), (_, _), (6, .fl (.own 9) 1 (List.map Value.string ([(⟨#[89, 81, 61]⟩ : ByteArray), (⟨#[89, 82, 61, 61]⟩ : ByteArray), (⟨#[89, 87, 70, 61]⟩ : ByteArray), (⟨#[89, 61, 61, 61]⟩ : ByteArray), (⟨#[89, 32, 81, 61]⟩ : ByteArray), (⟨#[61, 89, 81, 61]⟩ : ByteArray), (⟨#[89, 81, 61, 61, 89, 81, 61, 61]⟩ : ByteArray), (⟨#[89, 95, 81, 61]⟩ : ByteArray), (⟨#[61, 61, 61, 61]⟩ : ByteArray), (⟨#[89, 81, 61, 10]⟩ : ByteArray)])))]) (by kernel_rfl) rfl rfl
    ⟨st_plain rfl (op_buildSlice _ _ 1 (.string ByteArray.empty) (List.map Value.string ([(⟨#[89, 81, 61]⟩ : ByteArray), (⟨#[89, 82, 61, 61]⟩ : ByteArray), (⟨#[89, 87, 70, 61]⟩ : ByteArray), (⟨#[89, 61, 61, 61]⟩ : ByteArray), (⟨#[89, 32, 81, 61]⟩ : ByteArray), (⟨#[61, 89, 81, 61]⟩ : ByteArray), (⟨#[89, 81, 61, 61, 89, 81, 61, 61]⟩ : ByteArray), (⟨#[89, 95, 81, 61]⟩ : ByteArray), (⟨#[61, 61, 61, 61]⟩ : ByteArray), (⟨#[89, 81, 61, 10]⟩ : ByteArray)])) [(0, .string (⟨#[89, 81, 61]⟩ : ByteArray)), (1, .string (⟨#[89, 82, 61, 61]⟩ : ByteArray)), (2, .string (⟨#[89, 87, 70, 61]⟩ : ByteArray)), (3, .string (⟨#[89, 61, 61, 61]⟩ : ByteArray)), (4, .string (⟨#[89, 32, 81, 61]⟩ : ByteArray)), (5, .string (⟨#[61, 89, 81, 61]⟩ : ByteArray)), (6, .string (⟨#[89, 81, 61, 61, 89, 81, 61, 61]⟩ : ByteArray)), (7, .string (⟨#[89, 95, 81, 61]⟩ : ByteArray)), (8, .string (⟨#[61, 61, 61, 61]⟩ : ByteArray)), (9, .string (⟨#[89, 81, 61, 10]⟩ : ByteArray))] Tryd.underlying42 sz9 zr9 (fun _ V w o a hv hes => by simp only [List.map_toArray, List.map_cons, List.map_nil]; try rfl) (litfill (by simp [Instr.fill, Value.cells]; rfl) (by simp [List.range, List.range.loop] <;> rfl)) (by simp [Value.oneCell']) rfl (by decide) (by decide) (by decide)),
    st_plain rfl (op_assign_take _ _ _ _ rfl),
    trivial⟩ ?_
   refine pt_then ?_
   refine ht_seq ?_
   obtain ⟨v5, hv5, h⟩ := bind_some h
   obtain ⟨v6, hv6, h⟩ := bind_some h
   obtain ⟨v7, hv7, h⟩ := bind_some h
   obtain ⟨v8, hv8, h⟩ := bind_some h
   obtain ⟨v9, hv9, h⟩ := bind_some h
   obtain ⟨v10, hv10, h⟩ := bind_some h
   refine ht_seqR hn (El := (_ :: _ :: _ :: _ :: (23, .fl (.own 9) 1 (List.map Value.string ([(⟨#[89, 81, 61]⟩ : ByteArray), (⟨#[89, 82, 61, 61]⟩ : ByteArray), (⟨#[89, 87, 70, 61]⟩ : ByteArray), (⟨#[89, 61, 61, 61]⟩ : ByteArray), (⟨#[89, 32, 81, 61]⟩ : ByteArray), (⟨#[61, 89, 81, 61]⟩ : ByteArray), (⟨#[89, 81, 61, 61, 89, 81, 61, 61]⟩ : ByteArray), (⟨#[89, 95, 81, 61]⟩ : ByteArray), (⟨#[61, 61, 61, 61]⟩ : ByteArray), (⟨#[89, 81, 61, 10]⟩ : ByteArray)]))) :: (24, .v (.int .i64 how)) :: (25, .v (.int .u64 v5)) :: (26, .v (.int .u64 v6)) :: (27, .v (.int .i64 v7)) :: (28, .eref (.slot 23) (v8 * 1)) :: (29, .v (.string v9)) :: (30, .tup [.fl (.own 5) 1 (List.map (Value.int .u8) v10.1), .v (.int .i64 v10.2)]) :: (22, .tup [.fl (.own 5) 1 (List.map (Value.int .u8) v10.1), .v (.int .i64 v10.2)]) :: (31, .fl (.own 5) 1 (List.map (Value.int .u8) v10.1)) :: (22, .tup [.any, .v (.int .i64 v10.2)]) :: (32, .v (.int .i64 v10.2)) :: (7, .fl (.own 5) 1 (List.map (Value.int .u8) v10.1)) :: (8, .v (.int .i64 v10.2)) :: [])) (init := [0, 1, 2, 3]) (fin := [1, 2, 16, 17]) (sps := [⟨[], [3], [4], [(.slot 23)]⟩, ⟨[0], [], [5], [(.slot 24)]⟩, ⟨[5], [], [6], [(.slot 25)]⟩, ⟨[6], [], [7], [(.slot 26)]⟩, ⟨[7], [], [8], [(.slot 27)]⟩, ⟨[4, 8], [], [9], [(.slot 28)]⟩, ⟨[9, 4], [], [10], [(.slot 29)]⟩, ⟨[10, 1], [], [11], [(.slot 30)]⟩, ⟨[], [11], [12], [(.slot 22)]⟩, ⟨[], [12], [14, 13], [(.slot 31)]⟩, ⟨[14], [], [15], [(.slot 32)]⟩, ⟨[], [13], [16], [(.slot 7)]⟩, ⟨[15], [], [17], [(.slot 8)]⟩]) (es' := [(_, _), (_, _), (7, .fl (.own 5) 1 (List.map (Value.int .u8) v10.1)), (8, .v (.int .i64 v10.2))]) (by kernel_rfl) rfl rfl
    ⟨st_plain rfl (op_move_take _ _ _ _ rfl),
    st_plain rfl (op_move _ _ _ _ rfl rfl),
    st_plain rfl ((Option.some.inj hv5) ▸ op_conv _ _ _ Tryd.underlying3 Tryd.underlying36 rfl),
    st_plain rfl (op_bin _ _ _ _ _ rfl rfl (rem_ok hv6)),
    st_plain rfl ((Option.some.inj hv7) ▸ op_conv _ _ _ Tryd.underlying36 Tryd.underlying3 rfl),
    st_plain rfl (op_ix _ _ _ _ _ _ _ _ Tryd.underlying42 sz9 (by decide) rfl rfl rfl (ix_ok hv8).1 (map_lt (ix_ok hv8).2) rfl),
    st_plain rfl (op_load_e _ _ _ _ _ _ Tryd.underlying9 rfl rfl rfl (map_get hv9)),
    st_plain rfl (op_callG _ _ 71 9 _ _ rfl Tryd.call9 rfl rfl (fun _ h => h) (ok_cram_Decode mx v9 _ hv10) rfl rfl),
    st_plain rfl (op_move_take _ _ _ _ rfl),
    st_plain rfl (op_extract_take _ _ _ _ _ rfl (Nat.le_of_ble_eq_true rfl) rfl rfl (by decide) rfl),
    st_plain rfl (op_extract _ _ _ _ _ rfl rfl (Nat.le_of_ble_eq_true rfl) rfl rfl),
    st_plain rfl (op_assign_take _ _ _ _ rfl),
    st_plain rfl (op_assign _ _ _ _ rfl rfl),
    trivial⟩ ?_
   refine pt_then ?_
   refine ht_seq ?_
   obtain ⟨v11, hv11, h⟩ := bind_some h
   obtain ⟨v12, hv12, h⟩ := bind_some h
   refine ht_seqR hn (El := [_, _, _, _, (34, .v (.string v4)), (35, .v (.string v11)), (36, .tup [.fl (.own 5) 1 (List.map (Value.int .u8) v12.1), .v (.int .i64 v12.2)]), (33, .tup [.fl (.own 5) 1 (List.map (Value.int .u8) v12.1), .v (.int .i64 v12.2)]), (37, .fl (.own 5) 1 (List.map (Value.int .u8) v12.1)), (33, .tup [.any, .v (.int .i64 v12.2)]), (38, .v (.int .i64 v12.2)), (9, .fl (.own 5) 1 (List.map (Value.int .u8) v12.1)), (10, .v (.int .i64 v12.2))]) (init := [0, 1, 2, 3]) (fin := [0, 2, 3, 11, 12]) (sps := [⟨[1], [], [4], [(.slot 34)]⟩, ⟨[4], [], [5], [(.slot 35)]⟩, ⟨[5, 0], [], [6], [(.slot 36)]⟩, ⟨[], [6], [7], [(.slot 33)]⟩, ⟨[], [7], [9, 8], [(.slot 37)]⟩, ⟨[9], [], [10], [(.slot 38)]⟩, ⟨[], [8], [11], [(.slot 9)]⟩, ⟨[10], [], [12], [(.slot 10)]⟩]) (es' := [(_, _), (_, _), (_, _), (9, .fl (.own 5) 1 (List.map (Value.int .u8) v12.1)), (10, .v (.int .i64 v12.2))]) (by kernel_rfl) rfl rfl
    ⟨st_plain rfl (op_move _ _ _ _ rfl rfl),
    st_plain rfl (op_bin _ _ _ _ _ rfl rfl (cat_ok hv11)),
    st_plain rfl (op_callG _ _ 71 9 _ _ rfl Tryd.call9 rfl rfl (fun _ h => h) (ok_cram_Decode mx v11 _ hv12) rfl rfl),
    st_plain rfl (op_move_take _ _ _ _ rfl),
    st_plain rfl (op_extract_take _ _ _ _ _ rfl (Nat.le_of_ble_eq_true rfl) rfl rfl (by decide) rfl),
    st_plain rfl (op_extract _ _ _ _ _ rfl rfl (Nat.le_of_ble_eq_true rfl) rfl rfl),
    st_plain rfl (op_assign_take _ _ _ _ rfl),
    st_plain rfl (op_assign _ _ _ _ rfl rfl),
    trivial⟩ ?_
   refine pt_then ?_
   refine ht_seq ?_
   obtain ⟨v13, hv13, h⟩ := bind_some h
   refine ht_seqR hn (El := [_, _, _, _, _, (40, .tup [.fl (.own 5) 1 (List.map (Value.int .u8) v13.1), .v (.int .i64 v13.2)]), (39, .tup [.fl (.own 5) 1 (List.map (Value.int .u8) v13.1), .v (.int .i64 v13.2)]), (41, .fl (.own 5) 1 (List.map (Value.int .u8) v13.1)), (39, .tup [.any, .v (.int .i64 v13.2)]), (42, .v (.int .i64 v13.2)), (11, .fl (.own 5) 1 (List.map (Value.int .u8) v13.1)), (12, .v (.int .i64 v13.2))]) (init := [0, 1, 2, 3, 4]) (fin := [0, 1, 2, 3, 4, 10, 11]) (sps := [⟨[0], [], [5], [(.slot 40)]⟩, ⟨[], [5], [6], [(.slot 39)]⟩, ⟨[], [6], [8, 7], [(.slot 41)]⟩, ⟨[8], [], [9], [(.slot 42)]⟩, ⟨[], [7], [10], [(.slot 11)]⟩, ⟨[9], [], [11], [(.slot 12)]⟩]) (es' := [(_, _), (_, _), (_, _), (_, _), (_, _), (11, .fl (.own 5) 1 (List.map (Value.int .u8) v13.1)), (12, .v (.int .i64 v13.2))]) (by kernel_rfl) rfl rfl
    ⟨st_plain rfl (op_callG _ _ 71 9 _ _ rfl Tryd.call9 rfl rfl (fun _ h => h) (ok_cram_Decode mx (⟨#[]⟩ : ByteArray) _ hv13) rfl rfl),
    st_plain rfl (op_move_take _ _ _ _ rfl),
    st_plain rfl (op_extract_take _ _ _ _ _ rfl (Nat.le_of_ble_eq_true rfl) rfl rfl (by decide) rfl),
    st_plain rfl (op_extract _ _ _ _ _ rfl rfl (Nat.le_of_ble_eq_true rfl) rfl rfl),
    st_plain rfl (op_assign_take _ _ _ _ rfl),
    st_plain rfl (op_assign _ _ _ _ rfl rfl),
    trivial⟩ ?_
   refine pt_then ?_
   refine ht_seq ?_
   refine ht_joinS h (fun (s15 : Bool) => [(71, .glob (GL mx)), (4, .v (.bool s15))]) ?_ ?_
   ·rintro s15 h
    refine pt_then ?_
    refine ht_ret ?_
    refine pt_pick [1] (by kernel_rfl) (es' := [(_, _)]) rfl ?_
    obtain rfl := Option.some.inj h
    exact pt_ret hio rfl (.tmp _ _ .nil) rfl rfl
   ·intro u16 h hl17 hr18
    refine cond_some h (fun hg8_2 h => ?_) (fun hg8_2 h => ?_)
    ·refine cond_some h (fun hg8_7 h => ?_) (fun hg8_7 h => ?_)
     ·refine cond_some h (fun hg8_11 h => ?_) (fun hg8_11 h => ?_)
      ·refine cond_some h (fun hg8_16 h => ?_) (fun hg8_16 h => ?_)
       ·refine cond_some h (fun hg8_20 h => ?_) (fun hg8_20 h => ?_)
        ·refine cond_some h (fun hg8_25 h => ?_) (fun hg8_25 h => ?_)
         ·obtain ⟨v14, hv14, h⟩ := bind_some h
          refine ht_seqR hn (El := (_ :: _ :: _ :: _ :: _ :: _ :: _ :: (43, .v (.int .i64 v10.2)) :: (44, .v (.bool (v10.2 == 5))) :: (45, .v (.bool true)) :: (46, .fl (.own 5) 1 (List.map (Value.int .u8) v10.1)) :: (47, .v (.int .i64 (v10.1.length : Int))) :: (48, .v (.bool (((v10.1.length : Int) == 0)))) :: (49, .v (.bool (((v10.1.length : Int) == 0)))) :: (50, .v (.bool true)) :: (51, .v (.int .i64 v12.2)) :: (52, .v (.bool (v12.2 == 5))) :: (53, .v (.bool (v12.2 == 5))) :: (54, .v (.bool true)) :: (55, .fl (.own 5) 1 (List.map (Value.int .u8) v12.1)) :: (56, .v (.int .i64 (v12.1.length : Int))) :: (57, .v (.bool (((v12.1.length : Int) == 0)))) :: (58, .v (.bool (((v12.1.length : Int) == 0)))) :: (59, .v (.bool true)) :: (60, .v (.int .i64 v13.2)) :: (61, .v (.bool (v13.2 == 0))) :: (62, .v (.bool (v13.2 == 0))) :: (63, .v (.bool true)) :: (64, .fl (.own 5) 1 (List.map (Value.int .u8) v13.1)) :: (65, .v (.int .i64 (v13.1.length : Int))) :: (66, .v (.bool (((v13.1.length : Int) == 0)))) :: (67, .v (.bool (((v13.1.length : Int) == 0)))) :: (68, .v (.bool true)) :: (69, .v (.bool v14)) :: (70, .v (.bool v14)) :: (4, .v (.bool v14)) :: [])) (init := [0, 1, 2, 3, 4, 5, 6]) (fin := [0, 35]) (sps := (⟨[2], [], [7], [(.slot 43)]⟩ :: ⟨[7], [], [8], [(.slot 44)]⟩ :: ⟨[8], [], [9], [(.slot 45)]⟩ :: ⟨[9], [1], [10], [(.slot 46)]⟩ :: ⟨[9, 10], [], [11], [(.slot 47)]⟩ :: ⟨[9, 11], [], [12], [(.slot 48)]⟩ :: ⟨[9, 12], [], [13], [(.slot 49)]⟩ :: ⟨[13], [], [14], [(.slot 50)]⟩ :: ⟨[14, 4], [], [15], [(.slot 51)]⟩ :: ⟨[14, 15], [], [16], [(.slot 52)]⟩ :: ⟨[14, 16], [], [17], [(.slot 53)]⟩ :: ⟨[17], [], [18], [(.slot 54)]⟩ :: ⟨[18], [3], [19], [(.slot 55)]⟩ :: ⟨[18, 19], [], [20], [(.slot 56)]⟩ :: ⟨[18, 20], [], [21], [(.slot 57)]⟩ :: ⟨[18, 21], [], [22], [(.slot 58)]⟩ :: ⟨[22], [], [23], [(.slot 59)]⟩ :: ⟨[23, 6], [], [24], [(.slot 60)]⟩ :: ⟨[23, 24], [], [25], [(.slot 61)]⟩ :: ⟨[23, 25], [], [26], [(.slot 62)]⟩ :: ⟨[26], [], [27], [(.slot 63)]⟩ :: ⟨[27], [5], [28], [(.slot 64)]⟩ :: ⟨[27, 28], [], [29], [(.slot 65)]⟩ :: ⟨[27, 29], [], [30], [(.slot 66)]⟩ :: ⟨[27, 30], [], [31], [(.slot 67)]⟩ :: ⟨[31], [], [32], [(.slot 68)]⟩ :: ⟨[32, 0], [], [33], [(.slot 69)]⟩ :: ⟨[32, 33], [], [34], [(.slot 70)]⟩ :: ⟨[34], [], [35], [(.slot 4)]⟩ :: [])) (es' := [(_, _), (4, .v (.bool v14))]) (by kernel_rfl) rfl rfl
           ⟨st_plain rfl (op_move _ _ _ _ rfl rfl),
           st_plain rfl (op_bin _ _ _ _ _ rfl rfl rfl),
           st_plain rfl (op_move _ _ _ _ (congrArg (fun b => AV.v (Value.bool b)) hg8_2) rfl),
           st_run 2 45 true rfl rfl rfl (List.Mem.head _) (op_move_take _ _ _ _ rfl),
           st_run 2 45 true rfl rfl rfl (List.Mem.head _) (op_len_fl _ _ _ Tryd.underlying22 rfl (by decide) (map_len _)),
           st_run 2 45 true rfl rfl rfl (List.Mem.head _) (op_bin _ _ _ _ _ rfl rfl rfl),
           st_plain rfl (op_pick _ _ true _ rfl rfl),
           st_plain rfl (op_move _ _ _ _ (congrArg (fun b => AV.v (Value.bool b)) hg8_7) rfl),
           st_run 7 50 true rfl rfl rfl (List.Mem.head _) (op_move _ _ _ _ rfl rfl),
           st_run 7 50 true rfl rfl rfl (List.Mem.head _) (op_bin _ _ _ _ _ rfl rfl rfl),
           st_plain rfl (op_pick _ _ true _ rfl rfl),
           st_plain rfl (op_move _ _ _ _ (congrArg (fun b => AV.v (Value.bool b)) hg8_11) rfl),
           st_run 11 54 true rfl rfl rfl (List.Mem.head _) (op_move_take _ _ _ _ rfl),
           st_run 11 54 true rfl rfl rfl (List.Mem.head _) (op_len_fl _ _ _ Tryd.underlying22 rfl (by decide) (map_len _)),
           st_run 11 54 true rfl rfl rfl (List.Mem.head _) (op_bin _ _ _ _ _ rfl rfl rfl),
           st_plain rfl (op_pick _ _ true _ rfl rfl),
           st_plain rfl (op_move _ _ _ _ (congrArg (fun b => AV.v (Value.bool b)) hg8_16) rfl),
           st_run 16 59 true rfl rfl rfl (List.Mem.head _) (op_move _ _ _ _ rfl rfl),
           st_run 16 59 true rfl rfl rfl (List.Mem.head _) (op_bin _ _ _ _ _ rfl rfl rfl),
           st_plain rfl (op_pick _ _ true _ rfl rfl),
           st_plain rfl (op_move _ _ _ _ (congrArg (fun b => AV.v (Value.bool b)) hg8_20) rfl),
           st_run 20 63 true rfl rfl rfl (List.Mem.head _) (op_move_take _ _ _ _ rfl),
           st_run 20 63 true rfl rfl rfl (List.Mem.head _) (op_len_fl _ _ _ Tryd.underlying22 rfl (by decide) (map_len _)),
           st_run 20 63 true rfl rfl rfl (List.Mem.head _) (op_bin _ _ _ _ _ rfl rfl rfl),
           st_plain rfl (op_pick _ _ true _ rfl rfl),
           st_plain rfl (op_move _ _ _ _ (congrArg (fun b => AV.v (Value.bool b)) hg8_25) rfl),
           st_run 25 68 true rfl rfl rfl (List.Mem.head _) (op_callG _ _ 71 19 _ _ rfl Tryd.call19 rfl rfl (fun _ h => h) (ok_wherrylaw10_wakes mx  _ hv14) rfl rfl),
           st_plain rfl (op_pick _ _ true _ rfl rfl),
           st_plain rfl (op_assign _ _ _ _ rfl rfl),
           trivial⟩ ?_
          exact hl17 _ (Option.some.inj h).symm
         ·refine ht_seqR hn (El := (_ :: _ :: _ :: _ :: _ :: _ :: _ :: (43, .v (.int .i64 v10.2)) :: (44, .v (.bool (v10.2 == 5))) :: (45, .v (.bool true)) :: (46, .fl (.own 5) 1 (List.map (Value.int .u8) v10.1)) :: (47, .v (.int .i64 (v10.1.length : Int))) :: (48, .v (.bool (((v10.1.length : Int) == 0)))) :: (49, .v (.bool (((v10.1.length : Int) == 0)))) :: (50, .v (.bool true)) :: (51, .v (.int .i64 v12.2)) :: (52, .v (.bool (v12.2 == 5))) :: (53, .v (.bool (v12.2 == 5))) :: (54, .v (.bool true)) :: (55, .fl (.own 5) 1 (List.map (Value.int .u8) v12.1)) :: (56, .v (.int .i64 (v12.1.length : Int))) :: (57, .v (.bool (((v12.1.length : Int) == 0)))) :: (58, .v (.bool (((v12.1.length : Int) == 0)))) :: (59, .v (.bool true)) :: (60, .v (.int .i64 v13.2)) :: (61, .v (.bool (v13.2 == 0))) :: (62, .v (.bool (v13.2 == 0))) :: (63, .v (.bool true)) :: (64, .fl (.own 5) 1 (List.map (Value.int .u8) v13.1)) :: (65, .v (.int .i64 (v13.1.length : Int))) :: (66, .v (.bool (((v13.1.length : Int) == 0)))) :: (67, .v (.bool (((v13.1.length : Int) == 0)))) :: (68, .v (.bool false)) :: (69, .v undef) :: (70, .v (.bool false)) :: (4, .v (.bool false)) :: [])) (init := [0, 1, 2, 3, 4, 5, 6]) (fin := [0, 35]) (sps := (⟨[2], [], [7], [(.slot 43)]⟩ :: ⟨[7], [], [8], [(.slot 44)]⟩ :: ⟨[8], [], [9], [(.slot 45)]⟩ :: ⟨[9], [1], [10], [(.slot 46)]⟩ :: ⟨[9, 10], [], [11], [(.slot 47)]⟩ :: ⟨[9, 11], [], [12], [(.slot 48)]⟩ :: ⟨[9, 12], [], [13], [(.slot 49)]⟩ :: ⟨[13], [], [14], [(.slot 50)]⟩ :: ⟨[14, 4], [], [15], [(.slot 51)]⟩ :: ⟨[14, 15], [], [16], [(.slot 52)]⟩ :: ⟨[14, 16], [], [17], [(.slot 53)]⟩ :: ⟨[17], [], [18], [(.slot 54)]⟩ :: ⟨[18], [3], [19], [(.slot 55)]⟩ :: ⟨[18, 19], [], [20], [(.slot 56)]⟩ :: ⟨[18, 20], [], [21], [(.slot 57)]⟩ :: ⟨[18, 21], [], [22], [(.slot 58)]⟩ :: ⟨[22], [], [23], [(.slot 59)]⟩ :: ⟨[23, 6], [], [24], [(.slot 60)]⟩ :: ⟨[23, 24], [], [25], [(.slot 61)]⟩ :: ⟨[23, 25], [], [26], [(.slot 62)]⟩ :: ⟨[26], [], [27], [(.slot 63)]⟩ :: ⟨[27], [5], [28], [(.slot 64)]⟩ :: ⟨[27, 28], [], [29], [(.slot 65)]⟩ :: ⟨[27, 29], [], [30], [(.slot 66)]⟩ :: ⟨[27, 30], [], [31], [(.slot 67)]⟩ :: ⟨[31], [], [32], [(.slot 68)]⟩ :: ⟨[32], [], [33], [(.slot 69)]⟩ :: ⟨[32], [], [34], [(.slot 70)]⟩ :: ⟨[34], [], [35], [(.slot 4)]⟩ :: [])) (es' := [(_, _), (4, .v (.bool false))]) (by kernel_rfl) rfl rfl
           ⟨st_plain rfl (op_move _ _ _ _ rfl rfl),
           st_plain rfl (op_bin _ _ _ _ _ rfl rfl rfl),
           st_plain rfl (op_move _ _ _ _ (congrArg (fun b => AV.v (Value.bool b)) hg8_2) rfl),
           st_run 2 45 true rfl rfl rfl (List.Mem.head _) (op_move_take _ _ _ _ rfl),
           st_run 2 45 true rfl rfl rfl (List.Mem.head _) (op_len_fl _ _ _ Tryd.underlying22 rfl (by decide) (map_len _)),
           st_run 2 45 true rfl rfl rfl (List.Mem.head _) (op_bin _ _ _ _ _ rfl rfl rfl),
           st_plain rfl (op_pick _ _ true _ rfl rfl),
           st_plain rfl (op_move _ _ _ _ (congrArg (fun b => AV.v (Value.bool b)) hg8_7) rfl),
           st_run 7 50 true rfl rfl rfl (List.Mem.head _) (op_move _ _ _ _ rfl rfl),
           st_run 7 50 true rfl rfl rfl (List.Mem.head _) (op_bin _ _ _ _ _ rfl rfl rfl),
           st_plain rfl (op_pick _ _ true _ rfl rfl),
           st_plain rfl (op_move _ _ _ _ (congrArg (fun b => AV.v (Value.bool b)) hg8_11) rfl),
           st_run 11 54 true rfl rfl rfl (List.Mem.head _) (op_move_take _ _ _ _ rfl),
           st_run 11 54 true rfl rfl rfl (List.Mem.head _) (op_len_fl _ _ _ Tryd.underlying22 rfl (by decide) (map_len _)),
           st_run 11 54 true rfl rfl rfl (List.Mem.head _) (op_bin _ _ _ _ _ rfl rfl rfl),
           st_plain rfl (op_pick _ _ true _ rfl rfl),
           st_plain rfl (op_move _ _ _ _ (congrArg (fun b => AV.v (Value.bool b)) hg8_16) rfl),
           st_run 16 59 true rfl rfl rfl (List.Mem.head _) (op_move _ _ _ _ rfl rfl),
           st_run 16 59 true rfl rfl rfl (List.Mem.head _) (op_bin _ _ _ _ _ rfl rfl rfl),
           st_plain rfl (op_pick _ _ true _ rfl rfl),
           st_plain rfl (op_move _ _ _ _ (congrArg (fun b => AV.v (Value.bool b)) hg8_20) rfl),
           st_run 20 63 true rfl rfl rfl (List.Mem.head _) (op_move_take _ _ _ _ rfl),
           st_run 20 63 true rfl rfl rfl (List.Mem.head _) (op_len_fl _ _ _ Tryd.underlying22 rfl (by decide) (map_len _)),
           st_run 20 63 true rfl rfl rfl (List.Mem.head _) (op_bin _ _ _ _ _ rfl rfl rfl),
           st_plain rfl (op_pick _ _ true _ rfl rfl),
           st_plain rfl (op_move _ _ _ _ (congrArg (fun b => AV.v (Value.bool b)) hg8_25) rfl),
           st_skip 25 68 _ true rfl rfl rfl rfl (List.Mem.head _),
           st_plain rfl (op_pick _ _ false _ rfl rfl),
           st_plain rfl (op_assign _ _ _ _ rfl rfl),
           trivial⟩ ?_
          exact hl17 _ (Option.some.inj h).symm
        ·refine ht_seqR hn (El := (_ :: _ :: _ :: _ :: _ :: _ :: _ :: (43, .v (.int .i64 v10.2)) :: (44, .v (.bool (v10.2 == 5))) :: (45, .v (.bool true)) :: (46, .fl (.own 5) 1 (List.map (Value.int .u8) v10.1)) :: (47, .v (.int .i64 (v10.1.length : Int))) :: (48, .v (.bool (((v10.1.length : Int) == 0)))) :: (49, .v (.bool (((v10.1.length : Int) == 0)))) :: (50, .v (.bool true)) :: (51, .v (.int .i64 v12.2)) :: (52, .v (.bool (v12.2 == 5))) :: (53, .v (.bool (v12.2 == 5))) :: (54, .v (.bool true)) :: (55, .fl (.own 5) 1 (List.map (Value.int .u8) v12.1)) :: (56, .v (.int .i64 (v12.1.length : Int))) :: (57, .v (.bool (((v12.1.length : Int) == 0)))) :: (58, .v (.bool (((v12.1.length : Int) == 0)))) :: (59, .v (.bool true)) :: (60, .v (.int .i64 v13.2)) :: (61, .v (.bool (v13.2 == 0))) :: (62, .v (.bool (v13.2 == 0))) :: (63, .v (.bool false)) :: (64, .v undef) :: (65, .v undef) :: (66, .v undef) :: (67, .v (.bool false)) :: (68, .v (.bool false)) :: (69, .v undef) :: (70, .v (.bool false)) :: (4, .v (.bool false)) :: [])) (init := [0, 1, 2, 3, 4, 5, 6]) (fin := [0, 35]) (sps := (⟨[2], [], [7], [(.slot 43)]⟩ :: ⟨[7], [], [8], [(.slot 44)]⟩ :: ⟨[8], [], [9], [(.slot 45)]⟩ :: ⟨[9], [1], [10], [(.slot 46)]⟩ :: ⟨[9, 10], [], [11], [(.slot 47)]⟩ :: ⟨[9, 11], [], [12], [(.slot 48)]⟩ :: ⟨[9, 12], [], [13], [(.slot 49)]⟩ :: ⟨[13], [], [14], [(.slot 50)]⟩ :: ⟨[14, 4], [], [15], [(.slot 51)]⟩ :: ⟨[14, 15], [], [16], [(.slot 52)]⟩ :: ⟨[14, 16], [], [17], [(.slot 53)]⟩ :: ⟨[17], [], [18], [(.slot 54)]⟩ :: ⟨[18], [3], [19], [(.slot 55)]⟩ :: ⟨[18, 19], [], [20], [(.slot 56)]⟩ :: ⟨[18, 20], [], [21], [(.slot 57)]⟩ :: ⟨[18, 21], [], [22], [(.slot 58)]⟩ :: ⟨[22], [], [23], [(.slot 59)]⟩ :: ⟨[23, 6], [], [24], [(.slot 60)]⟩ :: ⟨[23, 24], [], [25], [(.slot 61)]⟩ :: ⟨[23, 25], [], [26], [(.slot 62)]⟩ :: ⟨[26], [], [27], [(.slot 63)]⟩ :: ⟨[27], [], [28], [(.slot 64)]⟩ :: ⟨[27], [], [29], [(.slot 65)]⟩ :: ⟨[27], [], [30], [(.slot 66)]⟩ :: ⟨[27], [], [31], [(.slot 67)]⟩ :: ⟨[31], [], [32], [(.slot 68)]⟩ :: ⟨[32], [], [33], [(.slot 69)]⟩ :: ⟨[32], [], [34], [(.slot 70)]⟩ :: ⟨[34], [], [35], [(.slot 4)]⟩ :: [])) (es' := [(_, _), (4, .v (.bool false))]) (by kernel_rfl) rfl rfl
          ⟨st_plain rfl (op_move _ _ _ _ rfl rfl),
          st_plain rfl (op_bin _ _ _ _ _ rfl rfl rfl),
          st_plain rfl (op_move _ _ _ _ (congrArg (fun b => AV.v (Value.bool b)) hg8_2) rfl),
          st_run 2 45 true rfl rfl rfl (List.Mem.head _) (op_move_take _ _ _ _ rfl),
          st_run 2 45 true rfl rfl rfl (List.Mem.head _) (op_len_fl _ _ _ Tryd.underlying22 rfl (by decide) (map_len _)),
          st_run 2 45 true rfl rfl rfl (List.Mem.head _) (op_bin _ _ _ _ _ rfl rfl rfl),
          st_plain rfl (op_pick _ _ true _ rfl rfl),
          st_plain rfl (op_move _ _ _ _ (congrArg (fun b => AV.v (Value.bool b)) hg8_7) rfl),
          st_run 7 50 true rfl rfl rfl (List.Mem.head _) (op_move _ _ _ _ rfl rfl),
          st_run 7 50 true rfl rfl rfl (List.Mem.head _) (op_bin _ _ _ _ _ rfl rfl rfl),
          st_plain rfl (op_pick _ _ true _ rfl rfl),
          st_plain rfl (op_move _ _ _ _ (congrArg (fun b => AV.v (Value.bool b)) hg8_11) rfl),
          st_run 11 54 true rfl rfl rfl (List.Mem.head _) (op_move_take _ _ _ _ rfl),
          st_run 11 54 true rfl rfl rfl (List.Mem.head _) (op_len_fl _ _ _ Tryd.underlying22 rfl (by decide) (map_len _)),
          st_run 11 54 true rfl rfl rfl (List.Mem.head _) (op_bin _ _ _ _ _ rfl rfl rfl),
          st_plain rfl (op_pick _ _ true _ rfl rfl),
          st_plain rfl (op_move _ _ _ _ (congrArg (fun b => AV.v (Value.bool b)) hg8_16) rfl),
          st_run 16 59 true rfl rfl rfl (List.Mem.head _) (op_move _ _ _ _ rfl rfl),
          st_run 16 59 true rfl rfl rfl (List.Mem.head _) (op_bin _ _ _ _ _ rfl rfl rfl),
          st_plain rfl (op_pick _ _ true _ rfl rfl),
          st_plain rfl (op_move _ _ _ _ (congrArg (fun b => AV.v (Value.bool b)) hg8_20) rfl),
          st_skip 20 63 _ true rfl rfl rfl rfl (List.Mem.head _),
          st_skip 20 63 _ true rfl rfl rfl rfl (List.Mem.head _),
          st_skip 20 63 _ true rfl rfl rfl rfl (List.Mem.head _),
          st_plain rfl (op_pick _ _ false _ rfl rfl),
          st_plain rfl (op_move _ _ _ _ rfl rfl),
          st_skip 25 68 _ true rfl rfl rfl rfl (List.Mem.head _),
          st_plain rfl (op_pick _ _ false _ rfl rfl),
          st_plain rfl (op_assign _ _ _ _ rfl rfl),
          trivial⟩ ?_
         exact hl17 _ (Option.some.inj h).symm
       ·refine ht_seqR hn (El := (_ :: _ :: _ :: _ :: _ :: _ :: _ :: (43, .v (.int .i64 v10.2)) :: (44, .v (.bool (v10.2 == 5))) :: (45, .v (.bool true)) :: (46, .fl (.own 5) 1 (List.map (Value.int .u8) v10.1)) :: (47, .v (.int .i64 (v10.1.length : Int))) :: (48, .v (.bool (((v10.1.length : Int) == 0)))) :: (49, .v (.bool (((v10.1.length : Int) == 0)))) :: (50, .v (.bool true)) :: (51, .v (.int .i64 v12.2)) :: (52, .v (.bool (v12.2 == 5))) :: (53, .v (.bool (v12.2 == 5))) :: (54, .v (.bool true)) :: (55, .fl (.own 5) 1 (List.map (Value.int .u8) v12.1)) :: (56, .v (.int .i64 (v12.1.length : Int))) :: (57, .v (.bool (((v12.1.length : Int) == 0)))) :: (58, .v (.bool (((v12.1.length : Int) == 0)))) :: (59, .v (.bool false)) :: (60, .v undef) :: (61, .v undef) :: (62, .v (.bool false)) :: (63, .v (.bool false)) :: (64, .v undef) :: (65, .v undef) :: (66, .v undef) :: (67, .v (.bool false)) :: (68, .v (.bool false)) :: (69, .v undef) :: (70, .v (.bool false)) :: (4, .v (.bool false)) :: [])) (init := [0, 1, 2, 3, 4, 5, 6]) (fin := [0, 35]) (sps := (⟨[2], [], [7], [(.slot 43)]⟩ :: ⟨[7], [], [8], [(.slot 44)]⟩ :: ⟨[8], [], [9], [(.slot 45)]⟩ :: ⟨[9], [1], [10], [(.slot 46)]⟩ :: ⟨[9, 10], [], [11], [(.slot 47)]⟩ :: ⟨[9, 11], [], [12], [(.slot 48)]⟩ :: ⟨[9, 12], [], [13], [(.slot 49)]⟩ :: ⟨[13], [], [14], [(.slot 50)]⟩ :: ⟨[14, 4], [], [15], [(.slot 51)]⟩ :: ⟨[14, 15], [], [16], [(.slot 52)]⟩ :: ⟨[14, 16], [], [17], [(.slot 53)]⟩ :: ⟨[17], [], [18], [(.slot 54)]⟩ :: ⟨[18], [3], [19], [(.slot 55)]⟩ :: ⟨[18, 19], [], [20], [(.slot 56)]⟩ :: ⟨[18, 20], [], [21], [(.slot 57)]⟩ :: ⟨[18, 21], [], [22], [(.slot 58)]⟩ :: ⟨[22], [], [23], [(.slot 59)]⟩ :: ⟨[23], [], [24], [(.slot 60)]⟩ :: ⟨[23], [], [25], [(.slot 61)]⟩ :: ⟨[23], [], [26], [(.slot 62)]⟩ :: ⟨[26], [], [27], [(.slot 63)]⟩ :: ⟨[27], [], [28], [(.slot 64)]⟩ :: ⟨[27], [], [29], [(.slot 65)]⟩ :: ⟨[27], [], [30], [(.slot 66)]⟩ :: ⟨[27], [], [31], [(.slot 67)]⟩ :: ⟨[31], [], [32], [(.slot 68)]⟩ :: ⟨[32], [], [33], [(.slot 69)]⟩ :: ⟨[32], [], [34], [(.slot 70)]⟩ :: ⟨[34], [], [35], [(.slot 4)]⟩ :: [])) (es' := [(_, _), (4, .v (.bool false))]) (by kernel_rfl) rfl rfl
         ⟨st_plain rfl (op_move _ _ _ _ rfl rfl),
         st_plain rfl (op_bin _ _ _ _ _ rfl rfl rfl),
         st_plain rfl (op_move _ _ _ _ (congrArg (fun b => AV.v (Value.bool b)) hg8_2) rfl),
         st_run 2 45 true rfl rfl rfl (List.Mem.head _) (op_move_take _ _ _ _ rfl),
         st_run 2 45 true rfl rfl rfl (List.Mem.head _) (op_len_fl _ _ _ Tryd.underlying22 rfl (by decide) (map_len _)),
         st_run 2 45 true rfl rfl rfl (List.Mem.head _) (op_bin _ _ _ _ _ rfl rfl rfl),
         st_plain rfl (op_pick _ _ true _ rfl rfl),
         st_plain rfl (op_move _ _ _ _ (congrArg (fun b => AV.v (Value.bool b)) hg8_7) rfl),
         st_run 7 50 true rfl rfl rfl (List.Mem.head _) (op_move _ _ _ _ rfl rfl),
         st_run 7 50 true rfl rfl rfl (List.Mem.head _) (op_bin _ _ _ _ _ rfl rfl rfl),
         st_plain rfl (op_pick _ _ true _ rfl rfl),
         st_plain rfl (op_move _ _ _ _ (congrArg (fun b => AV.v (Value.bool b)) hg8_11) rfl),
         st_run 11 54 true rfl rfl rfl (List.Mem.head _) (op_move_take _ _ _ _ rfl),
         st_run 11 54 true rfl rfl rfl (List.Mem.head _) (op_len_fl _ _ _ Tryd.underlying22 rfl (by decide) (map_len _)),
         st_run 11 54 true rfl rfl rfl (List.Mem.head _) (op_bin _ _ _ _ _ rfl rfl rfl),
         st_plain rfl (op_pick _ _ true _ rfl rfl),
         st_plain rfl (op_move _ _ _ _ (congrArg (fun b => AV.v (Value.bool b)) hg8_16) rfl),
         st_skip 16 59 _ true rfl rfl rfl rfl (List.Mem.head _),
         st_skip 16 59 _ true rfl rfl rfl rfl (List.Mem.head _),
         st_plain rfl (op_pick _ _ false _ rfl rfl),
         st_plain rfl (op_move _ _ _ _ rfl rfl),
         st_skip 20 63 _ true rfl rfl rfl rfl (List.Mem.head _),
         st_skip 20 63 _ true rfl rfl rfl rfl (List.Mem.head _),
         st_skip 20 63 _ true rfl rfl rfl rfl (List.Mem.head _),
         st_plain rfl (op_pick _ _ false _ rfl rfl),
         st_plain rfl (op_move _ _ _ _ rfl rfl),
         st_skip 25 68 _ true rfl rfl rfl rfl (List.Mem.head _),
         st_plain rfl (op_pick _ _ false _ rfl rfl),
         st_plain rfl (op_assign _ _ _ _ rfl rfl),
         trivial⟩ ?_
        exact hl17 _ (Option.some.inj h).symm
      ·refine ht_seqR hn (El := (_ :: _ :: _ :: _ :: _ :: _ :: _ :: (43, .v (.int .i64 v10.2)) :: (44, .v (.bool (v10.2 == 5))) :: (45, .v (.bool true)) :: (46, .fl (.own 5) 1 (List.map (Value.int .u8) v10.1)) :: (47, .v (.int .i64 (v10.1.length : Int))) :: (48, .v (.bool (((v10.1.length : Int) == 0)))) :: (49, .v (.bool (((v10.1.length : Int) == 0)))) :: (50, .v (.bool true)) :: (51, .v (.int .i64 v12.2)) :: (52, .v (.bool (v12.2 == 5))) :: (53, .v (.bool (v12.2 == 5))) :: (54, .v (.bool false)) :: (55, .v undef) :: (56, .v undef) :: (57, .v undef) :: (58, .v (.bool false)) :: (59, .v (.bool false)) :: (60, .v undef) :: (61, .v undef) :: (62, .v (.bool false)) :: (63, .v (.bool false)) :: (64, .v undef) :: (65, .v undef) :: (66, .v undef) :: (67, .v (.bool false)) :: (68, .v (.bool false)) :: (69, .v undef) :: (70, .v (.bool false)) :: (4, .v (.bool false)) :: [])) (init := [0, 1, 2, 3, 4, 5, 6]) (fin := [0, 35]) (sps := (⟨[2], [], [7], [(.slot 43)]⟩ :: ⟨[7], [], [8], [(.slot 44)]⟩ :: ⟨[8], [], [9], [(.slot 45)]⟩ :: ⟨[9], [1], [10], [(.slot 46)]⟩ :: ⟨[9, 10], [], [11], [(.slot 47)]⟩ :: ⟨[9, 11], [], [12], [(.slot 48)]⟩ :: ⟨[9, 12], [], [13], [(.slot 49)]⟩ :: ⟨[13], [], [14], [(.slot 50)]⟩ :: ⟨[14, 4], [], [15], [(.slot 51)]⟩ :: ⟨[14, 15], [], [16], [(.slot 52)]⟩ :: ⟨[14, 16], [], [17], [(.slot 53)]⟩ :: ⟨[17], [], [18], [(.slot 54)]⟩ :: ⟨[18], [], [19], [(.slot 55)]⟩ :: ⟨[18], [], [20], [(.slot 56)]⟩ :: ⟨[18], [], [21], [(.slot 57)]⟩ :: ⟨[18], [], [22], [(.slot 58)]⟩ :: ⟨[22], [], [23], [(.slot 59)]⟩ :: ⟨[23], [], [24], [(.slot 60)]⟩ :: ⟨[23], [], [25], [(.slot 61)]⟩ :: ⟨[23], [], [26], [(.slot 62)]⟩ :: ⟨[26], [], [27], [(.slot 63)]⟩ :: ⟨[27], [], [28], [(.slot 64)]⟩ :: ⟨[27], [], [29], [(.slot 65)]⟩ :: ⟨[27], [], [30], [(.slot 66)]⟩ :: ⟨[27], [], [31], [(.slot 67)]⟩ :: ⟨[31], [], [32], [(.slot 68)]⟩ :: ⟨[32], [], [33], [(.slot 69)]⟩ :: ⟨[32], [], [34], [(.slot 70)]⟩ :: ⟨[34], [], [35], [(.slot 4)]⟩ :: [])) (es' := [(_, _), (4, .v (.bool false))]) (by kernel_rfl) rfl rfl
        ⟨st_plain rfl (op_move _ _ _ _ rfl rfl),
        st_plain rfl (op_bin _ _ _ _ _ rfl rfl rfl),
        st_plain rfl (op_move _ _ _ _ (congrArg (fun b => AV.v (Value.bool b)) hg8_2) rfl),
        st_run 2 45 true rfl rfl rfl (List.Mem.head _) (op_move_take _ _ _ _ rfl),
        st_run 2 45 true rfl rfl rfl (List.Mem.head _) (op_len_fl _ _ _ Tryd.underlying22 rfl (by decide) (map_len _)),
        st_run 2 45 true rfl rfl rfl (List.Mem.head _) (op_bin _ _ _ _ _ rfl rfl rfl),
        st_plain rfl (op_pick _ _ true _ rfl rfl),
        st_plain rfl (op_move _ _ _ _ (congrArg (fun b => AV.v (Value.bool b)) hg8_7) rfl),
        st_run 7 50 true rfl rfl rfl (List.Mem.head _) (op_move _ _ _ _ rfl rfl),
        st_run 7 50 true rfl rfl rfl (List.Mem.head _) (op_bin _ _ _ _ _ rfl rfl rfl),
        st_plain rfl (op_pick _ _ true _ rfl rfl),
        st_plain rfl (op_move _ _ _ _ (congrArg (fun b => AV.v (Value.bool b)) hg8_11) rfl),
        st_skip 11 54 _ true rfl rfl rfl rfl (List.Mem.head _),
        st_skip 11 54 _ true rfl rfl rfl rfl (List.Mem.head _),
        st_skip 11 54 _ true rfl rfl rfl rfl (List.Mem.head _),
        st_plain rfl (op_pick _ _ false _ rfl rfl),
        st_plain rfl (op_move _ _ _ _ rfl rfl),
        st_skip 16 59 _ true rfl rfl rfl rfl (List.Mem.head _),
        st_skip 16 59 _ true rfl rfl rfl rfl (List.Mem.head _),
        st_plain rfl (op_pick _ _ false _ rfl rfl),
        st_plain rfl (op_move _ _ _ _ rfl rfl),
        st_skip 20 63 _ true rfl rfl rfl rfl (List.Mem.head _),
        st_skip 20 63 _ true rfl rfl rfl rfl (List.Mem.head _),
        st_skip 20 63 _ true rfl rfl rfl rfl (List.Mem.head _),
        st_plain rfl (op_pick _ _ false _ rfl rfl),
        st_plain rfl (op_move _ _ _ _ rfl rfl),
        st_skip 25 68 _ true rfl rfl rfl rfl (List.Mem.head _),
        st_plain rfl (op_pick _ _ false _ rfl rfl),
        st_plain rfl (op_assign _ _ _ _ rfl rfl),
        trivial⟩ ?_
       exact hl17 _ (Option.some.inj h).symm
     ·refine ht_seqR hn (El := (_ :: _ :: _ :: _ :: _ :: _ :: _ :: (43, .v (.int .i64 v10.2)) :: (44, .v (.bool (v10.2 == 5))) :: (45, .v (.bool true)) :: (46, .fl (.own 5) 1 (List.map (Value.int .u8) v10.1)) :: (47, .v (.int .i64 (v10.1.length : Int))) :: (48, .v (.bool (((v10.1.length : Int) == 0)))) :: (49, .v (.bool (((v10.1.length : Int) == 0)))) :: (50, .v (.bool false)) :: (51, .v undef) :: (52, .v undef) :: (53, .v (.bool false)) :: (54, .v (.bool false)) :: (55, .v undef) :: (56, .v undef) :: (57, .v undef) :: (58, .v (.bool false)) :: (59, .v (.bool false)) :: (60, .v undef) :: (61, .v undef) :: (62, .v (.bool false)) :: (63, .v (.bool false)) :: (64, .v undef) :: (65, .v undef) :: (66, .v undef) :: (67, .v (.bool false)) :: (68, .v (.bool false)) :: (69, .v undef) :: (70, .v (.bool false)) :: (4, .v (.bool false)) :: [])) (init := [0, 1, 2, 3, 4, 5, 6]) (fin := [0, 35]) (sps := (⟨[2], [], [7], [(.slot 43)]⟩ :: ⟨[7], [], [8], [(.slot 44)]⟩ :: ⟨[8], [], [9], [(.slot 45)]⟩ :: ⟨[9], [1], [10], [(.slot 46)]⟩ :: ⟨[9, 10], [], [11], [(.slot 47)]⟩ :: ⟨[9, 11], [], [12], [(.slot 48)]⟩ :: ⟨[9, 12], [], [13], [(.slot 49)]⟩ :: ⟨[13], [], [14], [(.slot 50)]⟩ :: ⟨[14], [], [15], [(.slot 51)]⟩ :: ⟨[14], [], [16], [(.slot 52)]⟩ :: ⟨[14], [], [17], [(.slot 53)]⟩ :: ⟨[17], [], [18], [(.slot 54)]⟩ :: ⟨[18], [], [19], [(.slot 55)]⟩ :: ⟨[18], [], [20], [(.slot 56)]⟩ :: ⟨[18], [], [21], [(.slot 57)]⟩ :: ⟨[18], [], [22], [(.slot 58)]⟩ :: ⟨[22], [], [23], [(.slot 59)]⟩ :: ⟨[23], [], [24], [(.slot 60)]⟩ :: ⟨[23], [], [25], [(.slot 61)]⟩ :: ⟨[23], [], [26], [(.slot 62)]⟩ :: ⟨[26], [], [27], [(.slot 63)]⟩ :: ⟨[27], [], [28], [(.slot 64)]⟩ :: ⟨[27], [], [29], [(.slot 65)]⟩ :: ⟨[27], [], [30], [(.slot 66)]⟩ :: ⟨[27], [], [31], [(.slot 67)]⟩ :: ⟨[31], [], [32], [(.slot 68)]⟩ :: ⟨[32], [], [33], [(.slot 69)]⟩ :: ⟨[32], [], [34], [(.slot 70)]⟩ :: ⟨[34], [], [35], [(.slot 4)]⟩ :: [])) (es' := [(_, _), (4, .v (.bool false))]) (by kernel_rfl) rfl rfl
       ⟨st_plain rfl (op_move _ _ _ _ rfl rfl),
       st_plain rfl (op_bin _ _ _ _ _ rfl rfl rfl),
       st_plain rfl (op_move _ _ _ _ (congrArg (fun b => AV.v (Value.bool b)) hg8_2) rfl),
       st_run 2 45 true rfl rfl rfl (List.Mem.head _) (op_move_take _ _ _ _ rfl),
       st_run 2 45 true rfl rfl rfl (List.Mem.head _) (op_len_fl _ _ _ Tryd.underlying22 rfl (by decide) (map_len _)),
       st_run 2 45 true rfl rfl rfl (List.Mem.head _) (op_bin _ _ _ _ _ rfl rfl rfl),
       st_plain rfl (op_pick _ _ true _ rfl rfl),
       st_plain rfl (op_move _ _ _ _ (congrArg (fun b => AV.v (Value.bool b)) hg8_7) rfl),
       st_skip 7 50 _ true rfl rfl rfl rfl (List.Mem.head _),
       st_skip 7 50 _ true rfl rfl rfl rfl (List.Mem.head _),
       st_plain rfl (op_pick _ _ false _ rfl rfl),
       st_plain rfl (op_move _ _ _ _ rfl rfl),
       st_skip 11 54 _ true rfl rfl rfl rfl (List.Mem.head _),
       st_skip 11 54 _ true rfl rfl rfl rfl (List.Mem.head _),
       st_skip 11 54 _ true rfl rfl rfl rfl (List.Mem.head _),
       st_plain rfl (op_pick _ _ false _ rfl rfl),
       st_plain rfl (op_move _ _ _ _ rfl rfl),
       st_skip 16 59 _ true rfl rfl rfl rfl (List.Mem.head _),
       st_skip 16 59 _ true rfl rfl rfl rfl (List.Mem.head _),
       st_plain rfl (op_pick _ _ false _ rfl rfl),
       st_plain rfl (op_move _ _ _ _ rfl rfl),
       st_skip 20 63 _ true rfl rfl rfl rfl (List.Mem.head _),
       st_skip 20 63 _ true rfl rfl rfl rfl (List.Mem.head _),
       st_skip 20 63 _ true rfl rfl rfl rfl (List.Mem.head _),
       st_plain rfl (op_pick _ _ false _ rfl rfl),
       st_plain rfl (op_move _ _ _ _ rfl rfl),
       st_skip 25 68 _ true rfl rfl rfl rfl (List.Mem.head _),
       st_plain rfl (op_pick _ _ false _ rfl rfl),
       st_plain rfl (op_assign _ _ _ _ rfl rfl),
       trivial⟩ ?_
      exact hl17 _ (Option.some.inj h).symm
    ·refine ht_seqR hn (El := (_ :: _ :: _ :: _ :: _ :: _ :: _ :: (43, .v (.int .i64 v10.2)) :: (44, .v (.bool (v10.2 == 5))) :: (45, .v (.bool false)) :: (46, .v undef) :: (47, .v undef) :: (48, .v undef) :: (49, .v (.bool false)) :: (50, .v (.bool false)) :: (51, .v undef) :: (52, .v undef) :: (53, .v (.bool false)) :: (54, .v (.bool false)) :: (55, .v undef) :: (56, .v undef) :: (57, .v undef) :: (58, .v (.bool false)) :: (59, .v (.bool false)) :: (60, .v undef) :: (61, .v undef) :: (62, .v (.bool false)) :: (63, .v (.bool false)) :: (64, .v undef) :: (65, .v undef) :: (66, .v undef) :: (67, .v (.bool false)) :: (68, .v (.bool false)) :: (69, .v undef) :: (70, .v (.bool false)) :: (4, .v (.bool false)) :: [])) (init := [0, 1, 2, 3, 4, 5, 6]) (fin := [0, 35]) (sps := (⟨[2], [], [7], [(.slot 43)]⟩ :: ⟨[7], [], [8], [(.slot 44)]⟩ :: ⟨[8], [], [9], [(.slot 45)]⟩ :: ⟨[9], [], [10], [(.slot 46)]⟩ :: ⟨[9], [], [11], [(.slot 47)]⟩ :: ⟨[9], [], [12], [(.slot 48)]⟩ :: ⟨[9], [], [13], [(.slot 49)]⟩ :: ⟨[13], [], [14], [(.slot 50)]⟩ :: ⟨[14], [], [15], [(.slot 51)]⟩ :: ⟨[14], [], [16], [(.slot 52)]⟩ :: ⟨[14], [], [17], [(.slot 53)]⟩ :: ⟨[17], [], [18], [(.slot 54)]⟩ :: ⟨[18], [], [19], [(.slot 55)]⟩ :: ⟨[18], [], [20], [(.slot 56)]⟩ :: ⟨[18], [], [21], [(.slot 57)]⟩ :: ⟨[18], [], [22], [(.slot 58)]⟩ :: ⟨[22], [], [23], [(.slot 59)]⟩ :: ⟨[23], [], [24], [(.slot 60)]⟩ :: ⟨[23], [], [25], [(.slot 61)]⟩ :: ⟨[23], [], [26], [(.slot 62)]⟩ :: ⟨[26], [], [27], [(.slot 63)]⟩ :: ⟨[27], [], [28], [(.slot 64)]⟩ :: ⟨[27], [], [29], [(.slot 65)]⟩ :: ⟨[27], [], [30], [(.slot 66)]⟩ :: ⟨[27], [], [31], [(.slot 67)]⟩ :: ⟨[31], [], [32], [(.slot 68)]⟩ :: ⟨[32], [], [33], [(.slot 69)]⟩ :: ⟨[32], [], [34], [(.slot 70)]⟩ :: ⟨[34], [], [35], [(.slot 4)]⟩ :: [])) (es' := [(_, _), (4, .v (.bool false))]) (by kernel_rfl) rfl rfl
      ⟨st_plain rfl (op_move _ _ _ _ rfl rfl),
      st_plain rfl (op_bin _ _ _ _ _ rfl rfl rfl),
      st_plain rfl (op_move _ _ _ _ (congrArg (fun b => AV.v (Value.bool b)) hg8_2) rfl),
      st_skip 2 45 _ true rfl rfl rfl rfl (List.Mem.head _),
      st_skip 2 45 _ true rfl rfl rfl rfl (List.Mem.head _),
      st_skip 2 45 _ true rfl rfl rfl rfl (List.Mem.head _),
      st_plain rfl (op_pick _ _ false _ rfl rfl),
      st_plain rfl (op_move _ _ _ _ rfl rfl),
      st_skip 7 50 _ true rfl rfl rfl rfl (List.Mem.head _),
      st_skip 7 50 _ true rfl rfl rfl rfl (List.Mem.head _),
      st_plain rfl (op_pick _ _ false _ rfl rfl),
      st_plain rfl (op_move _ _ _ _ rfl rfl),
      st_skip 11 54 _ true rfl rfl rfl rfl (List.Mem.head _),
      st_skip 11 54 _ true rfl rfl rfl rfl (List.Mem.head _),
      st_skip 11 54 _ true rfl rfl rfl rfl (List.Mem.head _),
      st_plain rfl (op_pick _ _ false _ rfl rfl),
      st_plain rfl (op_move _ _ _ _ rfl rfl),
      st_skip 16 59 _ true rfl rfl rfl rfl (List.Mem.head _),
      st_skip 16 59 _ true rfl rfl rfl rfl (List.Mem.head _),
      st_plain rfl (op_pick _ _ false _ rfl rfl),
      st_plain rfl (op_move _ _ _ _ rfl rfl),
      st_skip 20 63 _ true rfl rfl rfl rfl (List.Mem.head _),
      st_skip 20 63 _ true rfl rfl rfl rfl (List.Mem.head _),
      st_skip 20 63 _ true rfl rfl rfl rfl (List.Mem.head _),
      st_plain rfl (op_pick _ _ false _ rfl rfl),
      st_plain rfl (op_move _ _ _ _ rfl rfl),
      st_skip 25 68 _ true rfl rfl rfl rfl (List.Mem.head _),
      st_plain rfl (op_pick _ _ false _ rfl rfl),
      st_plain rfl (op_assign _ _ _ _ rfl rfl),
      trivial⟩ ?_
     exact hl17 _ (Option.some.inj h).symm

end Go.Proofs.YtadkeipbkbkneaaDoor
