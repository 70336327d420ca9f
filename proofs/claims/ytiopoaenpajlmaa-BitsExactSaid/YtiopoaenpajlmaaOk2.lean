/-
  The model's runs are what is told in Lean.
-/
import Derived.Test.YtiopoaenpajlmaaProg
import Derived.KernelRfl
import Derived.Test.YtiopoaenpajlmaaOk1
set_option linter.unusedVariables false
set_option linter.unusedSimpArgs false
namespace Go.Proofs.Ytiopoaenpajlmaa
open Go.Abs Go.Abs.Sh

set_option maxHeartbeats 1000000 in
theorem ok_wherrylaw01_wakes (r : Bool) (h : Sh.wherrylaw01_wakes  = some r) : FnOK Try.prog 24 [] (.v (.bool r)) := by
  unfold Sh.wherrylaw01_wakes at h
  refine fn_ok Try.func24 rfl (Nat.le_of_ble_eq_true rfl) rfl rfl fun g0 hn hio => ?_
  refine ht_seq ?_
  refine ht_seqR hn (El := [(0, .v (.bool false))]) (init := []) (fin := []) (sps := [⟨[], [], [0], [(.slot 0)]⟩]) (es' := []) (by kernel_rfl) rfl rfl
    ⟨st_plain rfl (op_assign _ _ _ _ rfl rfl),
      trivial⟩ ?_
  refine pt_then ?_
  refine ht_seq ?_
  obtain ⟨v1, hv1, h⟩ := bind_some h
  refine ht_seqR hn (El := [(8, .agg [.v (.slice none 0 0), .v (.int .i64 0)]), (9, .tup [.agg [.fl (.own 5) 1 (List.map (Value.int .u8) v1.1.B), .v (.int .i64 v1.1.N)], .v (.int .i64 v1.2)]), (7, .tup [.agg [.fl (.own 5) 1 (List.map (Value.int .u8) v1.1.B), .v (.int .i64 v1.1.N)], .v (.int .i64 v1.2)]), (10, .agg [.fl (.own 5) 1 (List.map (Value.int .u8) v1.1.B), .v (.int .i64 v1.1.N)]), (7, .tup [.any, .v (.int .i64 v1.2)]), (11, .v (.int .i64 v1.2)), (1, .box 24 [.v (.slice none 0 0), .v (.int .i64 0)]), (1, .box 24 [.fl (.own 5) 1 (List.map (Value.int .u8) v1.1.B), .v (.int .i64 v1.1.N)]), (2, .v (.int .i64 v1.2))]) (init := []) (fin := [7, 8]) (sps := [⟨[], [], [0], [(.slot 8)]⟩, ⟨[0], [], [1], [(.slot 9)]⟩, ⟨[], [1], [2], [(.slot 7)]⟩, ⟨[], [2], [4, 3], [(.slot 10)]⟩, ⟨[4], [], [5], [(.slot 11)]⟩, ⟨[], [], [6], [(.slot 1)]⟩, ⟨[], [3, 6], [7], [.cell 1 0, .cell 1 1]⟩, ⟨[5], [], [8], [(.slot 2)]⟩]) (es' := [(1, .box 24 [.fl (.own 5) 1 (List.map (Value.int .u8) v1.1.B), .v (.int .i64 v1.1.N)]), (2, .v (.int .i64 v1.2))]) (by kernel_rfl) rfl rfl
    ⟨st_plain rfl (op_build _ _ _ _ [1, 1] _ _ Try.underlying24 zr24 (fs24 _ Try.underlying24) Src.nil rfl rfl rfl),
      st_plain rfl (op_call _ _ 12 _ _ rfl Try.call12 rfl ((ok_bits_Put (T_Bits.mk [] 0) 5 3 _ hv1).args (subs_cons (sub_agg (subs_cons (sub_nil_shr 1) (subs_cons (sub_refl _) (subs_nil)))) (subs_cons (sub_refl _) (subs_cons (sub_refl _) (subs_nil))))) rfl rfl),
      st_plain rfl (op_move_take _ _ _ _ rfl),
      st_plain rfl (op_extract_take _ _ _ _ _ rfl (Nat.le_of_ble_eq_true rfl) rfl rfl (by decide) rfl),
      st_plain rfl (op_extract _ _ _ _ _ rfl rfl (Nat.le_of_ble_eq_true rfl) rfl rfl),
      st_plain rfl (op_alloc _ _ zr24),
      st_plain rfl (op_store_take _ _ _ _ _ _ _ _ sz24 rfl rfl rfl (Nat.le_of_ble_eq_true rfl) rfl rfl),
      st_plain rfl (op_assign _ _ _ _ rfl rfl),
      trivial⟩ ?_
  refine pt_then ?_
  refine ht_seq ?_
  obtain ⟨v2, hv2, h⟩ := bind_some h
  refine ht_seqR hn (El := [_, _, (13, .agg [.same (.cell 1 0), .v (.int .i64 v1.1.N)]), (14, .tup [.agg [.fl (.own 5) 1 (List.map (Value.int .u8) v2.1.B), .v (.int .i64 v2.1.N)], .v (.int .i64 v2.2)]), (12, .tup [.agg [.fl (.own 5) 1 (List.map (Value.int .u8) v2.1.B), .v (.int .i64 v2.1.N)], .v (.int .i64 v2.2)]), (15, .agg [.fl (.own 5) 1 (List.map (Value.int .u8) v2.1.B), .v (.int .i64 v2.1.N)]), (12, .tup [.any, .v (.int .i64 v2.2)]), (16, .v (.int .i64 v2.2)), (1, .box 24 [.fl (.own 5) 1 (List.map (Value.int .u8) v2.1.B), .v (.int .i64 v2.1.N)]), (3, .v (.int .i64 v2.2))]) (init := [0, 1]) (fin := [8, 1, 9]) (sps := [⟨[0], [], [2], [(.slot 13)]⟩, ⟨[2, 0], [], [3], [(.slot 14)]⟩, ⟨[], [3], [4], [(.slot 12)]⟩, ⟨[], [4], [6, 5], [(.slot 15)]⟩, ⟨[6], [], [7], [(.slot 16)]⟩, ⟨[], [2, 5, 0], [8], [.cell 1 0, .cell 1 1]⟩, ⟨[7], [], [9], [(.slot 3)]⟩]) (es' := [(1, .box 24 [.fl (.own 5) 1 (List.map (Value.int .u8) v2.1.B), .v (.int .i64 v2.1.N)]), (_, _), (3, .v (.int .i64 v2.2))]) (by kernel_rfl) rfl rfl
    ⟨st_plain rfl (op_loadA _ _ _ _ _ _ _ Try.underlying24 rfl sz24 rfl rfl (Nat.le_of_ble_eq_true rfl) rfl rfl),
      st_plain rfl (op_call _ _ 12 _ _ rfl Try.call12 rfl (ok_bits_Put v1.1 1 2 _ hv2) rfl rfl),
      st_plain rfl (op_move_take _ _ _ _ rfl),
      st_plain rfl (op_extract_take _ _ _ _ _ rfl (Nat.le_of_ble_eq_true rfl) rfl rfl (by decide) rfl),
      st_plain rfl (op_extract _ _ _ _ _ rfl rfl (Nat.le_of_ble_eq_true rfl) rfl rfl),
      st_plain rfl (LOp.drop [_] (op_store_take _ _ _ _ _ _ _ _ sz24 rfl rfl rfl (Nat.le_of_ble_eq_true rfl) rfl rfl)),
      st_plain rfl (op_assign _ _ _ _ rfl rfl),
      trivial⟩ ?_
  refine pt_then ?_
  refine ht_seq ?_
  obtain ⟨v3, hv3, h⟩ := bind_some h
  refine ht_seqR hn (El := [_, _, _, (18, .ptr 1 0), (19, .same (.cell 1 0)), (20, .tup [.v (.int .i64 v3.1), .v (.int .i64 v3.2.1), .v (.int .i64 v3.2.2)]), (17, .tup [.v (.int .i64 v3.1), .v (.int .i64 v3.2.1), .v (.int .i64 v3.2.2)]), (21, .v (.int .i64 v3.1)), (22, .v (.int .i64 v3.2.1)), (23, .v (.int .i64 v3.2.2)), (4, .v (.int .i64 v3.1)), (5, .v (.int .i64 v3.2.1)), (6, .v (.int .i64 v3.2.2))]) (init := [0, 1, 2]) (fin := [0, 1, 2, 10, 11, 12]) (sps := [⟨[0], [], [3], [(.slot 18)]⟩, ⟨[3, 0], [], [4], [(.slot 19)]⟩, ⟨[4, 0], [], [5], [(.slot 20)]⟩, ⟨[], [5], [6], [(.slot 17)]⟩, ⟨[6], [], [7], [(.slot 21)]⟩, ⟨[6], [], [8], [(.slot 22)]⟩, ⟨[6], [], [9], [(.slot 23)]⟩, ⟨[7], [], [10], [(.slot 4)]⟩, ⟨[8], [], [11], [(.slot 5)]⟩, ⟨[9], [], [12], [(.slot 6)]⟩]) (es' := [(_, _), (_, _), (_, _), (4, .v (.int .i64 v3.1)), (5, .v (.int .i64 v3.2.1)), (6, .v (.int .i64 v3.2.2))]) (by kernel_rfl) rfl rfl
    ⟨st_plain rfl (op_fieldAddr _ _ _ _ 1 0 _ Try.underlying24 rfl sz22 rfl rfl (by decide)),
      st_plain rfl (op_load _ _ _ _ _ _ Try.underlying22 rfl rfl rfl (Nat.le_of_ble_eq_true rfl) rfl rfl rfl),
      st_plain rfl (op_call _ _ 18 _ _ rfl Try.call18 rfl (ok_bits_Get v2.1.B 0 3 _ hv3) rfl rfl),
      st_plain rfl (op_move_take _ _ _ _ rfl),
      st_plain rfl (op_extract _ _ _ _ _ rfl rfl (Nat.le_of_ble_eq_true rfl) rfl rfl),
      st_plain rfl (op_extract _ _ _ _ _ rfl rfl (Nat.le_of_ble_eq_true rfl) rfl rfl),
      st_plain rfl (op_extract _ _ _ _ _ rfl rfl (Nat.le_of_ble_eq_true rfl) rfl rfl),
      st_plain rfl (op_assign _ _ _ _ rfl rfl),
      st_plain rfl (op_assign _ _ _ _ rfl rfl),
      st_plain rfl (op_assign _ _ _ _ rfl rfl),
      trivial⟩ ?_
  refine pt_then ?_
  refine ht_seq ?_
  refine ht_joinS h (fun (s5 : Bool) => [(0, .v (.bool s5))]) ?_ ?_
  · rintro s5 h
    refine pt_then ?_
    refine ht_ret ?_
    obtain rfl := Option.some.inj h
    exact pt_ret hio rfl (.tmp _ _ .nil) rfl rfl
  · intro u6 h hl7 hr8
    refine cond_some h (fun hg4_2 h => ?_) (fun hg4_2 h => ?_)
    · refine cond_some h (fun hg4_6 h => ?_) (fun hg4_6 h => ?_)
      · refine cond_some h (fun hg4_10 h => ?_) (fun hg4_10 h => ?_)
        · obtain ⟨v4, hv4, h⟩ := bind_some h
          refine cond_some h (fun hg4_16 h => ?_) (fun hg4_16 h => ?_)
          · refine cond_some h (fun hg4_20 h => ?_) (fun hg4_20 h => ?_)
            · refine ht_seqR hn (El := (_ :: _ :: _ :: _ :: _ :: _ :: (24, .v (.int .i64 v1.2)) :: (25, .v (.bool (v1.2 == 0))) :: (26, .v (.bool true)) :: (27, .v (.int .i64 v2.2)) :: (28, .v (.bool (v2.2 == 0))) :: (29, .v (.bool (v2.2 == 0))) :: (30, .v (.bool true)) :: (31, .v (.int .i64 v3.2.2)) :: (32, .v (.bool (v3.2.2 == 0))) :: (33, .v (.bool (v3.2.2 == 0))) :: (34, .v (.bool true)) :: (35, .agg [.fl (.own 5) 1 (List.map (Value.int .u8) v2.1.B), .v (.int .i64 v2.1.N)]) :: (36, .fl (.own 5) 1 (List.map (Value.int .u8) [13])) :: (37, .agg [.fl (.own 5) 1 (List.map (Value.int .u8) [13]), .v (.int .i64 5)]) :: (38, .v (.bool v4)) :: (39, .v (.bool v4)) :: (40, .v (.bool true)) :: (41, .v (.int .i64 v3.1)) :: (42, .v (.bool (v3.1 == 5))) :: (43, .v (.bool (v3.1 == 5))) :: (44, .v (.bool true)) :: (45, .v (.int .i64 v3.2.1)) :: (46, .v (.bool (v3.2.1 == 3))) :: (47, .v (.bool (v3.2.1 == 3))) :: (0, .v (.bool (v3.2.1 == 3))) :: [])) (init := [0, 1, 2, 3, 4, 5]) (fin := [30]) (sps := (⟨[1], [], [6], [(.slot 24)]⟩ :: ⟨[6], [], [7], [(.slot 25)]⟩ :: ⟨[7], [], [8], [(.slot 26)]⟩ :: ⟨[8, 2], [], [9], [(.slot 27)]⟩ :: ⟨[8, 9], [], [10], [(.slot 28)]⟩ :: ⟨[8, 10], [], [11], [(.slot 29)]⟩ :: ⟨[11], [], [12], [(.slot 30)]⟩ :: ⟨[12, 5], [], [13], [(.slot 31)]⟩ :: ⟨[12, 13], [], [14], [(.slot 32)]⟩ :: ⟨[12, 14], [], [15], [(.slot 33)]⟩ :: ⟨[15], [], [16], [(.slot 34)]⟩ :: ⟨[16], [0], [17], [(.slot 35)]⟩ :: ⟨[16], [], [18], [(.slot 36)]⟩ :: ⟨[16], [18], [19], [(.slot 37)]⟩ :: ⟨[16, 17, 19], [], [20], [(.slot 38)]⟩ :: ⟨[16, 20], [], [21], [(.slot 39)]⟩ :: ⟨[21], [], [22], [(.slot 40)]⟩ :: ⟨[22, 3], [], [23], [(.slot 41)]⟩ :: ⟨[22, 23], [], [24], [(.slot 42)]⟩ :: ⟨[22, 24], [], [25], [(.slot 43)]⟩ :: ⟨[25], [], [26], [(.slot 44)]⟩ :: ⟨[26, 4], [], [27], [(.slot 45)]⟩ :: ⟨[26, 27], [], [28], [(.slot 46)]⟩ :: ⟨[26, 28], [], [29], [(.slot 47)]⟩ :: ⟨[29], [], [30], [(.slot 0)]⟩ :: [])) (es' := [(0, .v (.bool (v3.2.1 == 3)))]) (by kernel_rfl) rfl rfl
                ⟨st_plain rfl (op_move _ _ _ _ rfl rfl),
                  st_plain rfl (op_bin _ _ _ _ _ rfl rfl rfl),
                  st_plain rfl (op_move _ _ _ _ (congrArg (fun b => AV.v (Value.bool b)) hg4_2) rfl),
                  st_run 2 26 true rfl rfl rfl (List.Mem.head _) (op_move _ _ _ _ rfl rfl),
                  st_run 2 26 true rfl rfl rfl (List.Mem.head _) (op_bin _ _ _ _ _ rfl rfl rfl),
                  st_plain rfl (op_pick _ _ true _ rfl rfl),
                  st_plain rfl (op_move _ _ _ _ (congrArg (fun b => AV.v (Value.bool b)) hg4_6) rfl),
                  st_run 6 30 true rfl rfl rfl (List.Mem.head _) (op_move _ _ _ _ rfl rfl),
                  st_run 6 30 true rfl rfl rfl (List.Mem.head _) (op_bin _ _ _ _ _ rfl rfl rfl),
                  st_plain rfl (op_pick _ _ true _ rfl rfl),
                  st_plain rfl (op_move _ _ _ _ (congrArg (fun b => AV.v (Value.bool b)) hg4_10) rfl),
                  st_run 10 34 true rfl rfl rfl (List.Mem.head _) (op_loadA_take _ _ _ _ Try.underlying24 rfl sz24 rfl rfl),
                  st_run 10 34 true rfl rfl rfl (List.Mem.head _) (op_buildSlice _ _ 1 (.int .u8 0) (List.map (Value.int .u8) [13]) [(0, .int .u8 13)] Try.underlying22 sz5 zr5 (fun _ V w o a hv hes => by simp only [List.map_toArray, List.map_cons, List.map_nil]; try rfl) (litfill (by simp [Instr.fill, Value.cells]; rfl) (by simp [List.range, List.range.loop])) (by simp [Value.oneCell']) rfl (by decide) (by decide) (by decide)),
                  st_run 10 34 true rfl rfl rfl (List.Mem.head _) (op_build _ _ _ _ [1, 1] _ _ Try.underlying24 zr24 (fs24 _ Try.underlying24) (.take _ _ (.copy _ Src.nil)) rfl rfl rfl),
                  st_run 10 34 true rfl rfl rfl (List.Mem.head _) (op_call _ _ 17 _ _ rfl Try.call17 rfl (ok_wherrykeep_Bits v2.1 (T_Bits.mk [13] 5) _ hv4) rfl rfl),
                  st_plain rfl (op_pick _ _ true _ rfl rfl),
                  st_plain rfl (op_move _ _ _ _ (congrArg (fun b => AV.v (Value.bool b)) hg4_16) rfl),
                  st_run 16 40 true rfl rfl rfl (List.Mem.head _) (op_move _ _ _ _ rfl rfl),
                  st_run 16 40 true rfl rfl rfl (List.Mem.head _) (op_bin _ _ _ _ _ rfl rfl rfl),
                  st_plain rfl (op_pick _ _ true _ rfl rfl),
                  st_plain rfl (op_move _ _ _ _ (congrArg (fun b => AV.v (Value.bool b)) hg4_20) rfl),
                  st_run 20 44 true rfl rfl rfl (List.Mem.head _) (op_move _ _ _ _ rfl rfl),
                  st_run 20 44 true rfl rfl rfl (List.Mem.head _) (op_bin _ _ _ _ _ rfl rfl rfl),
                  st_plain rfl (op_pick _ _ true _ rfl rfl),
                  st_plain rfl (op_assign _ _ _ _ rfl rfl),
                  trivial⟩ ?_
              exact hl7 _ (Option.some.inj h).symm
            · refine ht_seqR hn (El := (_ :: _ :: _ :: _ :: _ :: _ :: (24, .v (.int .i64 v1.2)) :: (25, .v (.bool (v1.2 == 0))) :: (26, .v (.bool true)) :: (27, .v (.int .i64 v2.2)) :: (28, .v (.bool (v2.2 == 0))) :: (29, .v (.bool (v2.2 == 0))) :: (30, .v (.bool true)) :: (31, .v (.int .i64 v3.2.2)) :: (32, .v (.bool (v3.2.2 == 0))) :: (33, .v (.bool (v3.2.2 == 0))) :: (34, .v (.bool true)) :: (35, .agg [.fl (.own 5) 1 (List.map (Value.int .u8) v2.1.B), .v (.int .i64 v2.1.N)]) :: (36, .fl (.own 5) 1 (List.map (Value.int .u8) [13])) :: (37, .agg [.fl (.own 5) 1 (List.map (Value.int .u8) [13]), .v (.int .i64 5)]) :: (38, .v (.bool v4)) :: (39, .v (.bool v4)) :: (40, .v (.bool true)) :: (41, .v (.int .i64 v3.1)) :: (42, .v (.bool (v3.1 == 5))) :: (43, .v (.bool (v3.1 == 5))) :: (44, .v (.bool false)) :: (45, .v undef) :: (46, .v undef) :: (47, .v (.bool false)) :: (0, .v (.bool false)) :: [])) (init := [0, 1, 2, 3, 4, 5]) (fin := [30]) (sps := (⟨[1], [], [6], [(.slot 24)]⟩ :: ⟨[6], [], [7], [(.slot 25)]⟩ :: ⟨[7], [], [8], [(.slot 26)]⟩ :: ⟨[8, 2], [], [9], [(.slot 27)]⟩ :: ⟨[8, 9], [], [10], [(.slot 28)]⟩ :: ⟨[8, 10], [], [11], [(.slot 29)]⟩ :: ⟨[11], [], [12], [(.slot 30)]⟩ :: ⟨[12, 5], [], [13], [(.slot 31)]⟩ :: ⟨[12, 13], [], [14], [(.slot 32)]⟩ :: ⟨[12, 14], [], [15], [(.slot 33)]⟩ :: ⟨[15], [], [16], [(.slot 34)]⟩ :: ⟨[16], [0], [17], [(.slot 35)]⟩ :: ⟨[16], [], [18], [(.slot 36)]⟩ :: ⟨[16], [18], [19], [(.slot 37)]⟩ :: ⟨[16, 17, 19], [], [20], [(.slot 38)]⟩ :: ⟨[16, 20], [], [21], [(.slot 39)]⟩ :: ⟨[21], [], [22], [(.slot 40)]⟩ :: ⟨[22, 3], [], [23], [(.slot 41)]⟩ :: ⟨[22, 23], [], [24], [(.slot 42)]⟩ :: ⟨[22, 24], [], [25], [(.slot 43)]⟩ :: ⟨[25], [], [26], [(.slot 44)]⟩ :: ⟨[26], [], [27], [(.slot 45)]⟩ :: ⟨[26], [], [28], [(.slot 46)]⟩ :: ⟨[26], [], [29], [(.slot 47)]⟩ :: ⟨[29], [], [30], [(.slot 0)]⟩ :: [])) (es' := [(0, .v (.bool false))]) (by kernel_rfl) rfl rfl
                ⟨st_plain rfl (op_move _ _ _ _ rfl rfl),
                  st_plain rfl (op_bin _ _ _ _ _ rfl rfl rfl),
                  st_plain rfl (op_move _ _ _ _ (congrArg (fun b => AV.v (Value.bool b)) hg4_2) rfl),
                  st_run 2 26 true rfl rfl rfl (List.Mem.head _) (op_move _ _ _ _ rfl rfl),
                  st_run 2 26 true rfl rfl rfl (List.Mem.head _) (op_bin _ _ _ _ _ rfl rfl rfl),
                  st_plain rfl (op_pick _ _ true _ rfl rfl),
                  st_plain rfl (op_move _ _ _ _ (congrArg (fun b => AV.v (Value.bool b)) hg4_6) rfl),
                  st_run 6 30 true rfl rfl rfl (List.Mem.head _) (op_move _ _ _ _ rfl rfl),
                  st_run 6 30 true rfl rfl rfl (List.Mem.head _) (op_bin _ _ _ _ _ rfl rfl rfl),
                  st_plain rfl (op_pick _ _ true _ rfl rfl),
                  st_plain rfl (op_move _ _ _ _ (congrArg (fun b => AV.v (Value.bool b)) hg4_10) rfl),
                  st_run 10 34 true rfl rfl rfl (List.Mem.head _) (op_loadA_take _ _ _ _ Try.underlying24 rfl sz24 rfl rfl),
                  st_run 10 34 true rfl rfl rfl (List.Mem.head _) (op_buildSlice _ _ 1 (.int .u8 0) (List.map (Value.int .u8) [13]) [(0, .int .u8 13)] Try.underlying22 sz5 zr5 (fun _ V w o a hv hes => by simp only [List.map_toArray, List.map_cons, List.map_nil]; try rfl) (litfill (by simp [Instr.fill, Value.cells]; rfl) (by simp [List.range, List.range.loop])) (by simp [Value.oneCell']) rfl (by decide) (by decide) (by decide)),
                  st_run 10 34 true rfl rfl rfl (List.Mem.head _) (op_build _ _ _ _ [1, 1] _ _ Try.underlying24 zr24 (fs24 _ Try.underlying24) (.take _ _ (.copy _ Src.nil)) rfl rfl rfl),
                  st_run 10 34 true rfl rfl rfl (List.Mem.head _) (op_call _ _ 17 _ _ rfl Try.call17 rfl (ok_wherrykeep_Bits v2.1 (T_Bits.mk [13] 5) _ hv4) rfl rfl),
                  st_plain rfl (op_pick _ _ true _ rfl rfl),
                  st_plain rfl (op_move _ _ _ _ (congrArg (fun b => AV.v (Value.bool b)) hg4_16) rfl),
                  st_run 16 40 true rfl rfl rfl (List.Mem.head _) (op_move _ _ _ _ rfl rfl),
                  st_run 16 40 true rfl rfl rfl (List.Mem.head _) (op_bin _ _ _ _ _ rfl rfl rfl),
                  st_plain rfl (op_pick _ _ true _ rfl rfl),
                  st_plain rfl (op_move _ _ _ _ (congrArg (fun b => AV.v (Value.bool b)) hg4_20) rfl),
                  st_skip 20 44 _ true rfl rfl rfl rfl (List.Mem.head _),
                  st_skip 20 44 _ true rfl rfl rfl rfl (List.Mem.head _),
                  st_plain rfl (op_pick _ _ false _ rfl rfl),
                  st_plain rfl (op_assign _ _ _ _ rfl rfl),
                  trivial⟩ ?_
              exact hl7 _ (Option.some.inj h).symm
          · refine ht_seqR hn (El := (_ :: _ :: _ :: _ :: _ :: _ :: (24, .v (.int .i64 v1.2)) :: (25, .v (.bool (v1.2 == 0))) :: (26, .v (.bool true)) :: (27, .v (.int .i64 v2.2)) :: (28, .v (.bool (v2.2 == 0))) :: (29, .v (.bool (v2.2 == 0))) :: (30, .v (.bool true)) :: (31, .v (.int .i64 v3.2.2)) :: (32, .v (.bool (v3.2.2 == 0))) :: (33, .v (.bool (v3.2.2 == 0))) :: (34, .v (.bool true)) :: (35, .agg [.fl (.own 5) 1 (List.map (Value.int .u8) v2.1.B), .v (.int .i64 v2.1.N)]) :: (36, .fl (.own 5) 1 (List.map (Value.int .u8) [13])) :: (37, .agg [.fl (.own 5) 1 (List.map (Value.int .u8) [13]), .v (.int .i64 5)]) :: (38, .v (.bool v4)) :: (39, .v (.bool v4)) :: (40, .v (.bool false)) :: (41, .v undef) :: (42, .v undef) :: (43, .v (.bool false)) :: (44, .v (.bool false)) :: (45, .v undef) :: (46, .v undef) :: (47, .v (.bool false)) :: (0, .v (.bool false)) :: [])) (init := [0, 1, 2, 3, 4, 5]) (fin := [30]) (sps := (⟨[1], [], [6], [(.slot 24)]⟩ :: ⟨[6], [], [7], [(.slot 25)]⟩ :: ⟨[7], [], [8], [(.slot 26)]⟩ :: ⟨[8, 2], [], [9], [(.slot 27)]⟩ :: ⟨[8, 9], [], [10], [(.slot 28)]⟩ :: ⟨[8, 10], [], [11], [(.slot 29)]⟩ :: ⟨[11], [], [12], [(.slot 30)]⟩ :: ⟨[12, 5], [], [13], [(.slot 31)]⟩ :: ⟨[12, 13], [], [14], [(.slot 32)]⟩ :: ⟨[12, 14], [], [15], [(.slot 33)]⟩ :: ⟨[15], [], [16], [(.slot 34)]⟩ :: ⟨[16], [0], [17], [(.slot 35)]⟩ :: ⟨[16], [], [18], [(.slot 36)]⟩ :: ⟨[16], [18], [19], [(.slot 37)]⟩ :: ⟨[16, 17, 19], [], [20], [(.slot 38)]⟩ :: ⟨[16, 20], [], [21], [(.slot 39)]⟩ :: ⟨[21], [], [22], [(.slot 40)]⟩ :: ⟨[22], [], [23], [(.slot 41)]⟩ :: ⟨[22], [], [24], [(.slot 42)]⟩ :: ⟨[22], [], [25], [(.slot 43)]⟩ :: ⟨[25], [], [26], [(.slot 44)]⟩ :: ⟨[26], [], [27], [(.slot 45)]⟩ :: ⟨[26], [], [28], [(.slot 46)]⟩ :: ⟨[26], [], [29], [(.slot 47)]⟩ :: ⟨[29], [], [30], [(.slot 0)]⟩ :: [])) (es' := [(0, .v (.bool false))]) (by kernel_rfl) rfl rfl
              ⟨st_plain rfl (op_move _ _ _ _ rfl rfl),
                st_plain rfl (op_bin _ _ _ _ _ rfl rfl rfl),
                st_plain rfl (op_move _ _ _ _ (congrArg (fun b => AV.v (Value.bool b)) hg4_2) rfl),
                st_run 2 26 true rfl rfl rfl (List.Mem.head _) (op_move _ _ _ _ rfl rfl),
                st_run 2 26 true rfl rfl rfl (List.Mem.head _) (op_bin _ _ _ _ _ rfl rfl rfl),
                st_plain rfl (op_pick _ _ true _ rfl rfl),
                st_plain rfl (op_move _ _ _ _ (congrArg (fun b => AV.v (Value.bool b)) hg4_6) rfl),
                st_run 6 30 true rfl rfl rfl (List.Mem.head _) (op_move _ _ _ _ rfl rfl),
                st_run 6 30 true rfl rfl rfl (List.Mem.head _) (op_bin _ _ _ _ _ rfl rfl rfl),
                st_plain rfl (op_pick _ _ true _ rfl rfl),
                st_plain rfl (op_move _ _ _ _ (congrArg (fun b => AV.v (Value.bool b)) hg4_10) rfl),
                st_run 10 34 true rfl rfl rfl (List.Mem.head _) (op_loadA_take _ _ _ _ Try.underlying24 rfl sz24 rfl rfl),
                st_run 10 34 true rfl rfl rfl (List.Mem.head _) (op_buildSlice _ _ 1 (.int .u8 0) (List.map (Value.int .u8) [13]) [(0, .int .u8 13)] Try.underlying22 sz5 zr5 (fun _ V w o a hv hes => by simp only [List.map_toArray, List.map_cons, List.map_nil]; try rfl) (litfill (by simp [Instr.fill, Value.cells]; rfl) (by simp [List.range, List.range.loop])) (by simp [Value.oneCell']) rfl (by decide) (by decide) (by decide)),
                st_run 10 34 true rfl rfl rfl (List.Mem.head _) (op_build _ _ _ _ [1, 1] _ _ Try.underlying24 zr24 (fs24 _ Try.underlying24) (.take _ _ (.copy _ Src.nil)) rfl rfl rfl),
                st_run 10 34 true rfl rfl rfl (List.Mem.head _) (op_call _ _ 17 _ _ rfl Try.call17 rfl (ok_wherrykeep_Bits v2.1 (T_Bits.mk [13] 5) _ hv4) rfl rfl),
                st_plain rfl (op_pick _ _ true _ rfl rfl),
                st_plain rfl (op_move _ _ _ _ (congrArg (fun b => AV.v (Value.bool b)) hg4_16) rfl),
                st_skip 16 40 _ true rfl rfl rfl rfl (List.Mem.head _),
                st_skip 16 40 _ true rfl rfl rfl rfl (List.Mem.head _),
                st_plain rfl (op_pick _ _ false _ rfl rfl),
                st_plain rfl (op_move _ _ _ _ rfl rfl),
                st_skip 20 44 _ true rfl rfl rfl rfl (List.Mem.head _),
                st_skip 20 44 _ true rfl rfl rfl rfl (List.Mem.head _),
                st_plain rfl (op_pick _ _ false _ rfl rfl),
                st_plain rfl (op_assign _ _ _ _ rfl rfl),
                trivial⟩ ?_
            exact hl7 _ (Option.some.inj h).symm
        · refine ht_seqR hn (El := (_ :: _ :: _ :: _ :: _ :: _ :: (24, .v (.int .i64 v1.2)) :: (25, .v (.bool (v1.2 == 0))) :: (26, .v (.bool true)) :: (27, .v (.int .i64 v2.2)) :: (28, .v (.bool (v2.2 == 0))) :: (29, .v (.bool (v2.2 == 0))) :: (30, .v (.bool true)) :: (31, .v (.int .i64 v3.2.2)) :: (32, .v (.bool (v3.2.2 == 0))) :: (33, .v (.bool (v3.2.2 == 0))) :: (34, .v (.bool false)) :: (35, .v undef) :: (36, .v undef) :: (37, .v undef) :: (38, .v undef) :: (39, .v (.bool false)) :: (40, .v (.bool false)) :: (41, .v undef) :: (42, .v undef) :: (43, .v (.bool false)) :: (44, .v (.bool false)) :: (45, .v undef) :: (46, .v undef) :: (47, .v (.bool false)) :: (0, .v (.bool false)) :: [])) (init := [0, 1, 2, 3, 4, 5]) (fin := [30]) (sps := (⟨[1], [], [6], [(.slot 24)]⟩ :: ⟨[6], [], [7], [(.slot 25)]⟩ :: ⟨[7], [], [8], [(.slot 26)]⟩ :: ⟨[8, 2], [], [9], [(.slot 27)]⟩ :: ⟨[8, 9], [], [10], [(.slot 28)]⟩ :: ⟨[8, 10], [], [11], [(.slot 29)]⟩ :: ⟨[11], [], [12], [(.slot 30)]⟩ :: ⟨[12, 5], [], [13], [(.slot 31)]⟩ :: ⟨[12, 13], [], [14], [(.slot 32)]⟩ :: ⟨[12, 14], [], [15], [(.slot 33)]⟩ :: ⟨[15], [], [16], [(.slot 34)]⟩ :: ⟨[16], [], [17], [(.slot 35)]⟩ :: ⟨[16], [], [18], [(.slot 36)]⟩ :: ⟨[16], [], [19], [(.slot 37)]⟩ :: ⟨[16], [], [20], [(.slot 38)]⟩ :: ⟨[16], [], [21], [(.slot 39)]⟩ :: ⟨[21], [], [22], [(.slot 40)]⟩ :: ⟨[22], [], [23], [(.slot 41)]⟩ :: ⟨[22], [], [24], [(.slot 42)]⟩ :: ⟨[22], [], [25], [(.slot 43)]⟩ :: ⟨[25], [], [26], [(.slot 44)]⟩ :: ⟨[26], [], [27], [(.slot 45)]⟩ :: ⟨[26], [], [28], [(.slot 46)]⟩ :: ⟨[26], [], [29], [(.slot 47)]⟩ :: ⟨[29], [], [30], [(.slot 0)]⟩ :: [])) (es' := [(0, .v (.bool false))]) (by kernel_rfl) rfl rfl
            ⟨st_plain rfl (op_move _ _ _ _ rfl rfl),
              st_plain rfl (op_bin _ _ _ _ _ rfl rfl rfl),
              st_plain rfl (op_move _ _ _ _ (congrArg (fun b => AV.v (Value.bool b)) hg4_2) rfl),
              st_run 2 26 true rfl rfl rfl (List.Mem.head _) (op_move _ _ _ _ rfl rfl),
              st_run 2 26 true rfl rfl rfl (List.Mem.head _) (op_bin _ _ _ _ _ rfl rfl rfl),
              st_plain rfl (op_pick _ _ true _ rfl rfl),
              st_plain rfl (op_move _ _ _ _ (congrArg (fun b => AV.v (Value.bool b)) hg4_6) rfl),
              st_run 6 30 true rfl rfl rfl (List.Mem.head _) (op_move _ _ _ _ rfl rfl),
              st_run 6 30 true rfl rfl rfl (List.Mem.head _) (op_bin _ _ _ _ _ rfl rfl rfl),
              st_plain rfl (op_pick _ _ true _ rfl rfl),
              st_plain rfl (op_move _ _ _ _ (congrArg (fun b => AV.v (Value.bool b)) hg4_10) rfl),
              st_skip 10 34 _ true rfl rfl rfl rfl (List.Mem.head _),
              st_skip 10 34 _ true rfl rfl rfl rfl (List.Mem.head _),
              st_skip 10 34 _ true rfl rfl rfl rfl (List.Mem.head _),
              st_skip 10 34 _ true rfl rfl rfl rfl (List.Mem.head _),
              st_plain rfl (op_pick _ _ false _ rfl rfl),
              st_plain rfl (op_move _ _ _ _ rfl rfl),
              st_skip 16 40 _ true rfl rfl rfl rfl (List.Mem.head _),
              st_skip 16 40 _ true rfl rfl rfl rfl (List.Mem.head _),
              st_plain rfl (op_pick _ _ false _ rfl rfl),
              st_plain rfl (op_move _ _ _ _ rfl rfl),
              st_skip 20 44 _ true rfl rfl rfl rfl (List.Mem.head _),
              st_skip 20 44 _ true rfl rfl rfl rfl (List.Mem.head _),
              st_plain rfl (op_pick _ _ false _ rfl rfl),
              st_plain rfl (op_assign _ _ _ _ rfl rfl),
              trivial⟩ ?_
          exact hl7 _ (Option.some.inj h).symm
      · refine ht_seqR hn (El := (_ :: _ :: _ :: _ :: _ :: _ :: (24, .v (.int .i64 v1.2)) :: (25, .v (.bool (v1.2 == 0))) :: (26, .v (.bool true)) :: (27, .v (.int .i64 v2.2)) :: (28, .v (.bool (v2.2 == 0))) :: (29, .v (.bool (v2.2 == 0))) :: (30, .v (.bool false)) :: (31, .v undef) :: (32, .v undef) :: (33, .v (.bool false)) :: (34, .v (.bool false)) :: (35, .v undef) :: (36, .v undef) :: (37, .v undef) :: (38, .v undef) :: (39, .v (.bool false)) :: (40, .v (.bool false)) :: (41, .v undef) :: (42, .v undef) :: (43, .v (.bool false)) :: (44, .v (.bool false)) :: (45, .v undef) :: (46, .v undef) :: (47, .v (.bool false)) :: (0, .v (.bool false)) :: [])) (init := [0, 1, 2, 3, 4, 5]) (fin := [30]) (sps := (⟨[1], [], [6], [(.slot 24)]⟩ :: ⟨[6], [], [7], [(.slot 25)]⟩ :: ⟨[7], [], [8], [(.slot 26)]⟩ :: ⟨[8, 2], [], [9], [(.slot 27)]⟩ :: ⟨[8, 9], [], [10], [(.slot 28)]⟩ :: ⟨[8, 10], [], [11], [(.slot 29)]⟩ :: ⟨[11], [], [12], [(.slot 30)]⟩ :: ⟨[12], [], [13], [(.slot 31)]⟩ :: ⟨[12], [], [14], [(.slot 32)]⟩ :: ⟨[12], [], [15], [(.slot 33)]⟩ :: ⟨[15], [], [16], [(.slot 34)]⟩ :: ⟨[16], [], [17], [(.slot 35)]⟩ :: ⟨[16], [], [18], [(.slot 36)]⟩ :: ⟨[16], [], [19], [(.slot 37)]⟩ :: ⟨[16], [], [20], [(.slot 38)]⟩ :: ⟨[16], [], [21], [(.slot 39)]⟩ :: ⟨[21], [], [22], [(.slot 40)]⟩ :: ⟨[22], [], [23], [(.slot 41)]⟩ :: ⟨[22], [], [24], [(.slot 42)]⟩ :: ⟨[22], [], [25], [(.slot 43)]⟩ :: ⟨[25], [], [26], [(.slot 44)]⟩ :: ⟨[26], [], [27], [(.slot 45)]⟩ :: ⟨[26], [], [28], [(.slot 46)]⟩ :: ⟨[26], [], [29], [(.slot 47)]⟩ :: ⟨[29], [], [30], [(.slot 0)]⟩ :: [])) (es' := [(0, .v (.bool false))]) (by kernel_rfl) rfl rfl
          ⟨st_plain rfl (op_move _ _ _ _ rfl rfl),
            st_plain rfl (op_bin _ _ _ _ _ rfl rfl rfl),
            st_plain rfl (op_move _ _ _ _ (congrArg (fun b => AV.v (Value.bool b)) hg4_2) rfl),
            st_run 2 26 true rfl rfl rfl (List.Mem.head _) (op_move _ _ _ _ rfl rfl),
            st_run 2 26 true rfl rfl rfl (List.Mem.head _) (op_bin _ _ _ _ _ rfl rfl rfl),
            st_plain rfl (op_pick _ _ true _ rfl rfl),
            st_plain rfl (op_move _ _ _ _ (congrArg (fun b => AV.v (Value.bool b)) hg4_6) rfl),
            st_skip 6 30 _ true rfl rfl rfl rfl (List.Mem.head _),
            st_skip 6 30 _ true rfl rfl rfl rfl (List.Mem.head _),
            st_plain rfl (op_pick _ _ false _ rfl rfl),
            st_plain rfl (op_move _ _ _ _ rfl rfl),
            st_skip 10 34 _ true rfl rfl rfl rfl (List.Mem.head _),
            st_skip 10 34 _ true rfl rfl rfl rfl (List.Mem.head _),
            st_skip 10 34 _ true rfl rfl rfl rfl (List.Mem.head _),
            st_skip 10 34 _ true rfl rfl rfl rfl (List.Mem.head _),
            st_plain rfl (op_pick _ _ false _ rfl rfl),
            st_plain rfl (op_move _ _ _ _ rfl rfl),
            st_skip 16 40 _ true rfl rfl rfl rfl (List.Mem.head _),
            st_skip 16 40 _ true rfl rfl rfl rfl (List.Mem.head _),
            st_plain rfl (op_pick _ _ false _ rfl rfl),
            st_plain rfl (op_move _ _ _ _ rfl rfl),
            st_skip 20 44 _ true rfl rfl rfl rfl (List.Mem.head _),
            st_skip 20 44 _ true rfl rfl rfl rfl (List.Mem.head _),
            st_plain rfl (op_pick _ _ false _ rfl rfl),
            st_plain rfl (op_assign _ _ _ _ rfl rfl),
            trivial⟩ ?_
        exact hl7 _ (Option.some.inj h).symm
    · refine ht_seqR hn (El := (_ :: _ :: _ :: _ :: _ :: _ :: (24, .v (.int .i64 v1.2)) :: (25, .v (.bool (v1.2 == 0))) :: (26, .v (.bool false)) :: (27, .v undef) :: (28, .v undef) :: (29, .v (.bool false)) :: (30, .v (.bool false)) :: (31, .v undef) :: (32, .v undef) :: (33, .v (.bool false)) :: (34, .v (.bool false)) :: (35, .v undef) :: (36, .v undef) :: (37, .v undef) :: (38, .v undef) :: (39, .v (.bool false)) :: (40, .v (.bool false)) :: (41, .v undef) :: (42, .v undef) :: (43, .v (.bool false)) :: (44, .v (.bool false)) :: (45, .v undef) :: (46, .v undef) :: (47, .v (.bool false)) :: (0, .v (.bool false)) :: [])) (init := [0, 1, 2, 3, 4, 5]) (fin := [30]) (sps := (⟨[1], [], [6], [(.slot 24)]⟩ :: ⟨[6], [], [7], [(.slot 25)]⟩ :: ⟨[7], [], [8], [(.slot 26)]⟩ :: ⟨[8], [], [9], [(.slot 27)]⟩ :: ⟨[8], [], [10], [(.slot 28)]⟩ :: ⟨[8], [], [11], [(.slot 29)]⟩ :: ⟨[11], [], [12], [(.slot 30)]⟩ :: ⟨[12], [], [13], [(.slot 31)]⟩ :: ⟨[12], [], [14], [(.slot 32)]⟩ :: ⟨[12], [], [15], [(.slot 33)]⟩ :: ⟨[15], [], [16], [(.slot 34)]⟩ :: ⟨[16], [], [17], [(.slot 35)]⟩ :: ⟨[16], [], [18], [(.slot 36)]⟩ :: ⟨[16], [], [19], [(.slot 37)]⟩ :: ⟨[16], [], [20], [(.slot 38)]⟩ :: ⟨[16], [], [21], [(.slot 39)]⟩ :: ⟨[21], [], [22], [(.slot 40)]⟩ :: ⟨[22], [], [23], [(.slot 41)]⟩ :: ⟨[22], [], [24], [(.slot 42)]⟩ :: ⟨[22], [], [25], [(.slot 43)]⟩ :: ⟨[25], [], [26], [(.slot 44)]⟩ :: ⟨[26], [], [27], [(.slot 45)]⟩ :: ⟨[26], [], [28], [(.slot 46)]⟩ :: ⟨[26], [], [29], [(.slot 47)]⟩ :: ⟨[29], [], [30], [(.slot 0)]⟩ :: [])) (es' := [(0, .v (.bool false))]) (by kernel_rfl) rfl rfl
        ⟨st_plain rfl (op_move _ _ _ _ rfl rfl),
          st_plain rfl (op_bin _ _ _ _ _ rfl rfl rfl),
          st_plain rfl (op_move _ _ _ _ (congrArg (fun b => AV.v (Value.bool b)) hg4_2) rfl),
          st_skip 2 26 _ true rfl rfl rfl rfl (List.Mem.head _),
          st_skip 2 26 _ true rfl rfl rfl rfl (List.Mem.head _),
          st_plain rfl (op_pick _ _ false _ rfl rfl),
          st_plain rfl (op_move _ _ _ _ rfl rfl),
          st_skip 6 30 _ true rfl rfl rfl rfl (List.Mem.head _),
          st_skip 6 30 _ true rfl rfl rfl rfl (List.Mem.head _),
          st_plain rfl (op_pick _ _ false _ rfl rfl),
          st_plain rfl (op_move _ _ _ _ rfl rfl),
          st_skip 10 34 _ true rfl rfl rfl rfl (List.Mem.head _),
          st_skip 10 34 _ true rfl rfl rfl rfl (List.Mem.head _),
          st_skip 10 34 _ true rfl rfl rfl rfl (List.Mem.head _),
          st_skip 10 34 _ true rfl rfl rfl rfl (List.Mem.head _),
          st_plain rfl (op_pick _ _ false _ rfl rfl),
          st_plain rfl (op_move _ _ _ _ rfl rfl),
          st_skip 16 40 _ true rfl rfl rfl rfl (List.Mem.head _),
          st_skip 16 40 _ true rfl rfl rfl rfl (List.Mem.head _),
          st_plain rfl (op_pick _ _ false _ rfl rfl),
          st_plain rfl (op_move _ _ _ _ rfl rfl),
          st_skip 20 44 _ true rfl rfl rfl rfl (List.Mem.head _),
          st_skip 20 44 _ true rfl rfl rfl rfl (List.Mem.head _),
          st_plain rfl (op_pick _ _ false _ rfl rfl),
          st_plain rfl (op_assign _ _ _ _ rfl rfl),
          trivial⟩ ?_
      exact hl7 _ (Option.some.inj h).symm

set_option maxHeartbeats 1000000 in
theorem ok_wherrylaw01_BitsExact (s : T_Bits) (v : Int) (n : Int) (b : (List Int)) (at_ : Int) (r : Bool) (h : Sh.wherrylaw01_BitsExact s v n b at_ = some r) : FnOK Try.prog 3 [.agg [.fl .shr 1 (List.map (Value.int .u8) s.B), .v (.int .i64 s.N)], .v (.int .i64 v), .v (.int .i64 n), .fl .shr 1 (List.map (Value.int .u8) b), .v (.int .i64 at_)] (.v (.bool r)) := by
  unfold Sh.wherrylaw01_BitsExact at h
  refine fn_ok Try.func3 rfl (Nat.le_of_ble_eq_true rfl) rfl rfl fun g0 hn hio => ?_
  refine ht_seq ?_
  refine ht_seqR hn (El := [_, _, _, _, _, (5, .box 24 [.fl .shr 1 (List.map (Value.int .u8) s.B), .v (.int .i64 s.N)]), (10, .v (.bool false))]) (init := [0, 1, 2, 3, 4]) (fin := [1, 2, 3, 4, 5]) (sps := [⟨[0], [], [5], [(.slot 5)]⟩, ⟨[], [], [6], [(.slot 10)]⟩]) (es' := [(_, _), (_, _), (_, _), (_, _), (5, .box 24 [.fl .shr 1 (List.map (Value.int .u8) s.B), .v (.int .i64 s.N)])]) (by kernel_rfl) rfl rfl
    ⟨st_plain rfl (op_box _ _ _ _ rfl rfl rfl),
      st_plain rfl (op_assign _ _ _ _ rfl rfl),
      trivial⟩ ?_
  refine pt_then ?_
  refine ht_seq ?_
  refine ht_seq ?_
  refine ht_joinS h (fun (s1 : Bool) => [(1, .v (.int .i64 v)), (2, .v (.int .i64 n)), (3, .fl .shr 1 (List.map (Value.int .u8) b)), (4, .v (.int .i64 at_)), (5, .box 24 [.fl .shr 1 (List.map (Value.int .u8) s.B), .v (.int .i64 s.N)]), (36, .v (.bool s1))]) ?_ ?_
  · rintro s1 h
    refine pt_then ?_
    refine ht_cond _ rfl (fun hb5 => ?_) (fun hb5 => ?_)
    · have h := cond_t hb5 h
      refine ht_seq ?_
      refine ht_seqR hn (El := [_, _, _, _, _, _, (10, .v (.bool true))]) (init := [0, 1, 2, 3, 4, 5]) (fin := [6]) (sps := [⟨[], [], [6], [(.slot 10)]⟩]) (es' := [(10, .v (.bool true))]) (by kernel_rfl) rfl rfl
        ⟨st_plain rfl (op_assign _ _ _ _ rfl rfl),
          trivial⟩ ?_
      refine pt_then ?_
      refine ht_ret ?_
      refine pt_r_then ?_
      obtain rfl := Option.some.inj h
      exact pt_ret hio rfl (.tmp _ _ .nil) rfl rfl
    · have h := cond_f hb5 h
      refine ht_skip ?_
      refine pt_then ?_
      refine ht_seq ?_
      obtain ⟨v6, hv6, h⟩ := bind_some h
      obtain ⟨v7, hv7, h⟩ := bind_some h
      refine ht_seqR hn (El := [_, _, _, _, _, _, (37, .agg [.fl .shr 1 (List.map (Value.int .u8) s.B), .v (.int .i64 s.N)]), (38, .agg [.fl (.own 5) 1 (List.map (Value.int .u8) v6.B), .v (.int .i64 v6.N)]), (39, .fl .shr 1 (List.map (Value.int .u8) b)), (40, .fl (.own 5) 1 (List.map (Value.int .u8) v7)), (11, .box 24 [.v (.slice none 0 0), .v (.int .i64 0)]), (11, .box 24 [.fl (.own 5) 1 (List.map (Value.int .u8) v6.B), .v (.int .i64 v6.N)]), (12, .fl (.own 5) 1 (List.map (Value.int .u8) v7))]) (init := [0, 1, 2, 3, 4, 5]) (fin := [0, 1, 2, 3, 4, 11, 12]) (sps := [⟨[4], [], [6], [(.slot 37)]⟩, ⟨[6], [], [7], [(.slot 38)]⟩, ⟨[2], [], [8], [(.slot 39)]⟩, ⟨[8], [], [9], [(.slot 40)]⟩, ⟨[], [], [10], [(.slot 11)]⟩, ⟨[], [7, 10], [11], [.cell 11 0, .cell 11 1]⟩, ⟨[], [9], [12], [(.slot 12)]⟩]) (es' := [(_, _), (_, _), (_, _), (_, _), (_, _), (11, .box 24 [.fl (.own 5) 1 (List.map (Value.int .u8) v6.B), .v (.int .i64 v6.N)]), (12, .fl (.own 5) 1 (List.map (Value.int .u8) v7))]) (by kernel_rfl) rfl rfl
        ⟨st_plain rfl (op_loadA _ _ _ _ _ _ _ Try.underlying24 rfl sz24 rfl rfl (Nat.le_of_ble_eq_true rfl) rfl rfl),
          st_plain rfl (op_call _ _ 9 _ _ rfl Try.call9 rfl (ok_wherrylaw01_twin s _ hv6) rfl rfl),
          st_plain rfl (op_move _ _ _ _ rfl rfl),
          st_plain rfl (op_call _ _ 10 _ _ rfl Try.call10 rfl (ok_wherrykeep_Twin b _ hv7) rfl rfl),
          st_plain rfl (op_alloc _ _ zr24),
          st_plain rfl (op_store_take _ _ _ _ _ _ _ _ sz24 rfl rfl rfl (Nat.le_of_ble_eq_true rfl) rfl rfl),
          st_plain rfl (op_assign_take _ _ _ _ rfl),
          trivial⟩ ?_
      refine pt_then ?_
      refine ht_seq ?_
      refine ht_seqR hn (El := [_, _, _, _, _, _, _, (13, .v (.int .i64 0))]) (init := [0, 1, 2, 3, 4, 5, 6]) (fin := [0, 1, 2, 3, 4, 5, 6, 7]) (sps := [⟨[], [], [7], [(.slot 13)]⟩]) (es' := [(_, _), (_, _), (_, _), (_, _), (_, _), (_, _), (_, _), (13, .v (.int .i64 0))]) (by kernel_rfl) rfl rfl
        ⟨st_plain rfl (op_assign _ _ _ _ rfl rfl),
          trivial⟩ ?_
      refine pt_then ?_
      refine ht_seq ?_
      refine ht_joinS h (fun (s10 : Int) => [(1, .v (.int .i64 v)), (2, .v (.int .i64 n)), (3, .fl .shr 1 (List.map (Value.int .u8) b)), (4, .v (.int .i64 at_)), (5, .box 24 [.fl .shr 1 (List.map (Value.int .u8) s.B), .v (.int .i64 s.N)]), (11, .box 24 [.fl (.own 5) 1 (List.map (Value.int .u8) v6.B), .v (.int .i64 v6.N)]), (12, .fl (.own 5) 1 (List.map (Value.int .u8) v7)), (13, .v (.int .i64 s10))]) ?_ ?_
      · rintro s10 h
        refine pt_then ?_
        refine ht_seq ?_
        obtain ⟨v15, hv15, h⟩ := bind_some h
        refine ht_seqR hn (El := (_ :: _ :: _ :: _ :: _ :: _ :: _ :: _ :: (45, .agg [.same (.cell 11 0), .v (.int .i64 v6.N)]) :: (46, .v (.int .i64 v)) :: (47, .v (.int .i64 n)) :: (48, .tup [.agg [.fl (.own 5) 1 (List.map (Value.int .u8) v15.1.B), .v (.int .i64 v15.1.N)], .v (.int .i64 v15.2)]) :: (44, .tup [.agg [.fl (.own 5) 1 (List.map (Value.int .u8) v15.1.B), .v (.int .i64 v15.1.N)], .v (.int .i64 v15.2)]) :: (49, .agg [.fl (.own 5) 1 (List.map (Value.int .u8) v15.1.B), .v (.int .i64 v15.1.N)]) :: (44, .tup [.any, .v (.int .i64 v15.2)]) :: (50, .v (.int .i64 v15.2)) :: (14, .box 24 [.v (.slice none 0 0), .v (.int .i64 0)]) :: (14, .box 24 [.fl (.own 5) 1 (List.map (Value.int .u8) v15.1.B), .v (.int .i64 v15.1.N)]) :: (15, .v (.int .i64 v15.2)) :: [])) (init := [0, 1, 2, 3, 4, 5, 6, 7]) (fin := [0, 1, 2, 3, 4, 5, 6, 7, 17, 18]) (sps := [⟨[5], [], [8], [(.slot 45)]⟩, ⟨[0], [], [9], [(.slot 46)]⟩, ⟨[1], [], [10], [(.slot 47)]⟩, ⟨[8, 5, 9, 10], [], [11], [(.slot 48)]⟩, ⟨[], [11], [12], [(.slot 44)]⟩, ⟨[], [12], [14, 13], [(.slot 49)]⟩, ⟨[14], [], [15], [(.slot 50)]⟩, ⟨[], [], [16], [(.slot 14)]⟩, ⟨[], [13, 16], [17], [.cell 14 0, .cell 14 1]⟩, ⟨[15], [], [18], [(.slot 15)]⟩]) (es' := [(_, _), (_, _), (_, _), (_, _), (_, _), (_, _), (_, _), (_, _), (14, .box 24 [.fl (.own 5) 1 (List.map (Value.int .u8) v15.1.B), .v (.int .i64 v15.1.N)]), (15, .v (.int .i64 v15.2))]) (by kernel_rfl) rfl rfl
          ⟨st_plain rfl (op_loadA _ _ _ _ _ _ _ Try.underlying24 rfl sz24 rfl rfl (Nat.le_of_ble_eq_true rfl) rfl rfl),
            st_plain rfl (op_move _ _ _ _ rfl rfl),
            st_plain rfl (op_move _ _ _ _ rfl rfl),
            st_plain rfl (op_call _ _ 12 _ _ rfl Try.call12 rfl (ok_bits_Put v6 v n _ hv15) rfl rfl),
            st_plain rfl (op_move_take _ _ _ _ rfl),
            st_plain rfl (op_extract_take _ _ _ _ _ rfl (Nat.le_of_ble_eq_true rfl) rfl rfl (by decide) rfl),
            st_plain rfl (op_extract _ _ _ _ _ rfl rfl (Nat.le_of_ble_eq_true rfl) rfl rfl),
            st_plain rfl (op_alloc _ _ zr24),
            st_plain rfl (op_store_take _ _ _ _ _ _ _ _ sz24 rfl rfl rfl (Nat.le_of_ble_eq_true rfl) rfl rfl),
            st_plain rfl (op_assign _ _ _ _ rfl rfl),
            trivial⟩ ?_
        refine pt_then ?_
        refine ht_seq ?_
        obtain ⟨v16, hv16, h⟩ := bind_some h
        refine ht_seqR hn (El := (_ :: _ :: _ :: _ :: _ :: _ :: _ :: _ :: _ :: _ :: (52, .agg [.fl .shr 1 (List.map (Value.int .u8) s.B), .v (.int .i64 s.N)]) :: (53, .v (.int .i64 v)) :: (54, .v (.int .i64 n)) :: (55, .tup [.agg [.fl (.own 5) 1 (List.map (Value.int .u8) v16.1.B), .v (.int .i64 v16.1.N)], .v (.int .i64 v16.2)]) :: (51, .tup [.agg [.fl (.own 5) 1 (List.map (Value.int .u8) v16.1.B), .v (.int .i64 v16.1.N)], .v (.int .i64 v16.2)]) :: (56, .agg [.fl (.own 5) 1 (List.map (Value.int .u8) v16.1.B), .v (.int .i64 v16.1.N)]) :: (51, .tup [.any, .v (.int .i64 v16.2)]) :: (57, .v (.int .i64 v16.2)) :: (16, .box 24 [.v (.slice none 0 0), .v (.int .i64 0)]) :: (16, .box 24 [.fl (.own 5) 1 (List.map (Value.int .u8) v16.1.B), .v (.int .i64 v16.1.N)]) :: (17, .v (.int .i64 v16.2)) :: [])) (init := [0, 1, 2, 3, 4, 5, 6, 7, 8, 9]) (fin := [0, 1, 2, 3, 4, 5, 6, 7, 8, 9, 19, 20]) (sps := [⟨[4], [], [10], [(.slot 52)]⟩, ⟨[0], [], [11], [(.slot 53)]⟩, ⟨[1], [], [12], [(.slot 54)]⟩, ⟨[10, 11, 12], [], [13], [(.slot 55)]⟩, ⟨[], [13], [14], [(.slot 51)]⟩, ⟨[], [14], [16, 15], [(.slot 56)]⟩, ⟨[16], [], [17], [(.slot 57)]⟩, ⟨[], [], [18], [(.slot 16)]⟩, ⟨[], [15, 18], [19], [.cell 16 0, .cell 16 1]⟩, ⟨[17], [], [20], [(.slot 17)]⟩]) (es' := [(_, _), (_, _), (_, _), (_, _), (_, _), (_, _), (_, _), (_, _), (_, _), (_, _), (16, .box 24 [.fl (.own 5) 1 (List.map (Value.int .u8) v16.1.B), .v (.int .i64 v16.1.N)]), (17, .v (.int .i64 v16.2))]) (by kernel_rfl) rfl rfl
          ⟨st_plain rfl (op_loadA _ _ _ _ _ _ _ Try.underlying24 rfl sz24 rfl rfl (Nat.le_of_ble_eq_true rfl) rfl rfl),
            st_plain rfl (op_move _ _ _ _ rfl rfl),
            st_plain rfl (op_move _ _ _ _ rfl rfl),
            st_plain rfl (op_call _ _ 13 _ _ rfl Try.call13 rfl (ok_wherryref01_Put s v n _ hv16) rfl rfl),
            st_plain rfl (op_move_take _ _ _ _ rfl),
            st_plain rfl (op_extract_take _ _ _ _ _ rfl (Nat.le_of_ble_eq_true rfl) rfl rfl (by decide) rfl),
            st_plain rfl (op_extract _ _ _ _ _ rfl rfl (Nat.le_of_ble_eq_true rfl) rfl rfl),
            st_plain rfl (op_alloc _ _ zr24),
            st_plain rfl (op_store_take _ _ _ _ _ _ _ _ sz24 rfl rfl rfl (Nat.le_of_ble_eq_true rfl) rfl rfl),
            st_plain rfl (op_assign _ _ _ _ rfl rfl),
            trivial⟩ ?_
        refine pt_then ?_
        refine ht_seq ?_
        obtain ⟨v17, hv17, h⟩ := bind_some h
        refine ht_seqR hn (El := (_ :: _ :: _ :: _ :: _ :: _ :: _ :: _ :: _ :: _ :: _ :: _ :: (59, .agg [.same (.cell 11 0), .v (.int .i64 v6.N)]) :: (60, .tup [.agg [.fl (.own 5) 1 (List.map (Value.int .u8) v17.1.B), .v (.int .i64 v17.1.N)], .v (.int .i64 v17.2)]) :: (58, .tup [.agg [.fl (.own 5) 1 (List.map (Value.int .u8) v17.1.B), .v (.int .i64 v17.1.N)], .v (.int .i64 v17.2)]) :: (61, .agg [.fl (.own 5) 1 (List.map (Value.int .u8) v17.1.B), .v (.int .i64 v17.1.N)]) :: (58, .tup [.any, .v (.int .i64 v17.2)]) :: (62, .v (.int .i64 v17.2)) :: (18, .box 24 [.v (.slice none 0 0), .v (.int .i64 0)]) :: (18, .box 24 [.fl (.own 5) 1 (List.map (Value.int .u8) v17.1.B), .v (.int .i64 v17.1.N)]) :: (19, .v (.int .i64 v17.2)) :: [])) (init := [0, 1, 2, 3, 4, 5, 6, 7, 8, 9, 10, 11]) (fin := [0, 1, 2, 3, 4, 5, 6, 7, 8, 9, 10, 11, 19, 20]) (sps := [⟨[5], [], [12], [(.slot 59)]⟩, ⟨[12, 5], [], [13], [(.slot 60)]⟩, ⟨[], [13], [14], [(.slot 58)]⟩, ⟨[], [14], [16, 15], [(.slot 61)]⟩, ⟨[16], [], [17], [(.slot 62)]⟩, ⟨[], [], [18], [(.slot 18)]⟩, ⟨[], [15, 18], [19], [.cell 18 0, .cell 18 1]⟩, ⟨[17], [], [20], [(.slot 19)]⟩]) (es' := [(_, _), (_, _), (_, _), (_, _), (_, _), (_, _), (_, _), (_, _), (_, _), (_, _), (_, _), (_, _), (18, .box 24 [.fl (.own 5) 1 (List.map (Value.int .u8) v17.1.B), .v (.int .i64 v17.1.N)]), (19, .v (.int .i64 v17.2))]) (by kernel_rfl) rfl rfl
          ⟨st_plain rfl (op_loadA _ _ _ _ _ _ _ Try.underlying24 rfl sz24 rfl rfl (Nat.le_of_ble_eq_true rfl) rfl rfl),
            st_plain rfl (op_call _ _ 14 _ _ rfl Try.call14 rfl (ok_bits_Fill v6 _ hv17) rfl rfl),
            st_plain rfl (op_move_take _ _ _ _ rfl),
            st_plain rfl (op_extract_take _ _ _ _ _ rfl (Nat.le_of_ble_eq_true rfl) rfl rfl (by decide) rfl),
            st_plain rfl (op_extract _ _ _ _ _ rfl rfl (Nat.le_of_ble_eq_true rfl) rfl rfl),
            st_plain rfl (op_alloc _ _ zr24),
            st_plain rfl (op_store_take _ _ _ _ _ _ _ _ sz24 rfl rfl rfl (Nat.le_of_ble_eq_true rfl) rfl rfl),
            st_plain rfl (op_assign _ _ _ _ rfl rfl),
            trivial⟩ ?_
        refine pt_then ?_
        refine ht_seq ?_
        obtain ⟨v18, hv18, h⟩ := bind_some h
        refine ht_seqR hn (El := (_ :: _ :: _ :: _ :: _ :: _ :: _ :: _ :: _ :: _ :: _ :: _ :: _ :: _ :: (64, .agg [.fl .shr 1 (List.map (Value.int .u8) s.B), .v (.int .i64 s.N)]) :: (65, .tup [.agg [.fl (.own 5) 1 (List.map (Value.int .u8) v18.1.B), .v (.int .i64 v18.1.N)], .v (.int .i64 v18.2)]) :: (63, .tup [.agg [.fl (.own 5) 1 (List.map (Value.int .u8) v18.1.B), .v (.int .i64 v18.1.N)], .v (.int .i64 v18.2)]) :: (66, .agg [.fl (.own 5) 1 (List.map (Value.int .u8) v18.1.B), .v (.int .i64 v18.1.N)]) :: (63, .tup [.any, .v (.int .i64 v18.2)]) :: (67, .v (.int .i64 v18.2)) :: (20, .box 24 [.v (.slice none 0 0), .v (.int .i64 0)]) :: (20, .box 24 [.fl (.own 5) 1 (List.map (Value.int .u8) v18.1.B), .v (.int .i64 v18.1.N)]) :: (21, .v (.int .i64 v18.2)) :: [])) (init := [0, 1, 2, 3, 4, 5, 6, 7, 8, 9, 10, 11, 12, 13]) (fin := [0, 1, 2, 3, 4, 5, 6, 7, 8, 9, 10, 11, 12, 13, 21, 22]) (sps := [⟨[4], [], [14], [(.slot 64)]⟩, ⟨[14], [], [15], [(.slot 65)]⟩, ⟨[], [15], [16], [(.slot 63)]⟩, ⟨[], [16], [18, 17], [(.slot 66)]⟩, ⟨[18], [], [19], [(.slot 67)]⟩, ⟨[], [], [20], [(.slot 20)]⟩, ⟨[], [17, 20], [21], [.cell 20 0, .cell 20 1]⟩, ⟨[19], [], [22], [(.slot 21)]⟩]) (es' := ((_, _) :: (_, _) :: (_, _) :: (_, _) :: (_, _) :: (_, _) :: (_, _) :: (_, _) :: (_, _) :: (_, _) :: (_, _) :: (_, _) :: (_, _) :: (_, _) :: (20, .box 24 [.fl (.own 5) 1 (List.map (Value.int .u8) v18.1.B), .v (.int .i64 v18.1.N)]) :: (21, .v (.int .i64 v18.2)) :: [])) (by kernel_rfl) rfl rfl
          ⟨st_plain rfl (op_loadA _ _ _ _ _ _ _ Try.underlying24 rfl sz24 rfl rfl (Nat.le_of_ble_eq_true rfl) rfl rfl),
            st_plain rfl (op_call _ _ 15 _ _ rfl Try.call15 rfl (ok_wherryref01_Fill s _ hv18) rfl rfl),
            st_plain rfl (op_move_take _ _ _ _ rfl),
            st_plain rfl (op_extract_take _ _ _ _ _ rfl (Nat.le_of_ble_eq_true rfl) rfl rfl (by decide) rfl),
            st_plain rfl (op_extract _ _ _ _ _ rfl rfl (Nat.le_of_ble_eq_true rfl) rfl rfl),
            st_plain rfl (op_alloc _ _ zr24),
            st_plain rfl (op_store_take _ _ _ _ _ _ _ _ sz24 rfl rfl rfl (Nat.le_of_ble_eq_true rfl) rfl rfl),
            st_plain rfl (op_assign _ _ _ _ rfl rfl),
            trivial⟩ ?_
        refine pt_then ?_
        refine ht_seq ?_
        refine ht_seq ?_
        refine ht_joinS h (fun (s22 : Bool) => [(1, .v (.int .i64 v)), (2, .v (.int .i64 n)), (3, .fl .shr 1 (List.map (Value.int .u8) b)), (4, .v (.int .i64 at_)), (5, .box 24 [.fl .shr 1 (List.map (Value.int .u8) s.B), .v (.int .i64 s.N)]), (11, .box 24 [.fl (.own 5) 1 (List.map (Value.int .u8) v6.B), .v (.int .i64 v6.N)]), (12, .fl (.own 5) 1 (List.map (Value.int .u8) v7)), (14, .box 24 [.fl (.own 5) 1 (List.map (Value.int .u8) v15.1.B), .v (.int .i64 v15.1.N)]), (18, .box 24 [.fl (.own 5) 1 (List.map (Value.int .u8) v17.1.B), .v (.int .i64 v17.1.N)]), (93, .v (.bool s22))]) ?_ ?_
        · rintro s22 h
          refine pt_then ?_
          refine ht_cond _ rfl (fun hb26 => ?_) (fun hb26 => ?_)
          · have h := cond_t hb26 h
            refine ht_seq ?_
            refine ht_seqR hn (El := [_, _, _, _, _, _, _, _, _, _, (10, .v (.bool false))]) (init := [0, 1, 2, 3, 4, 5, 6, 7, 8, 9]) (fin := [10]) (sps := [⟨[], [], [10], [(.slot 10)]⟩]) (es' := [(10, .v (.bool false))]) (by kernel_rfl) rfl rfl
              ⟨st_plain rfl (op_assign _ _ _ _ rfl rfl),
                trivial⟩ ?_
            refine pt_then ?_
            refine ht_ret ?_
            refine pt_r_then ?_
            obtain rfl := Option.some.inj h
            exact pt_ret hio rfl (.tmp _ _ .nil) rfl rfl
          · have h := cond_f hb26 h
            refine ht_skip ?_
            refine pt_then ?_
            refine ht_seq ?_
            obtain ⟨v27, hv27, h⟩ := bind_some h
            refine ht_seqR hn (El := (_ :: _ :: _ :: _ :: _ :: _ :: _ :: _ :: _ :: _ :: (95, .same (.slot 12)) :: (96, .v (.int .i64 at_)) :: (97, .v (.int .i64 n)) :: (98, .tup [.v (.int .i64 v27.1), .v (.int .i64 v27.2.1), .v (.int .i64 v27.2.2)]) :: (94, .tup [.v (.int .i64 v27.1), .v (.int .i64 v27.2.1), .v (.int .i64 v27.2.2)]) :: (99, .v (.int .i64 v27.1)) :: (100, .v (.int .i64 v27.2.1)) :: (101, .v (.int .i64 v27.2.2)) :: (22, .v (.int .i64 v27.1)) :: (23, .v (.int .i64 v27.2.1)) :: (15, .v (.int .i64 v27.2.2)) :: [])) (init := [0, 1, 2, 3, 4, 5, 6, 7, 8, 9]) (fin := [0, 1, 2, 3, 4, 5, 6, 7, 8, 18, 19, 20]) (sps := [⟨[6], [], [10], [(.slot 95)]⟩, ⟨[3], [], [11], [(.slot 96)]⟩, ⟨[1], [], [12], [(.slot 97)]⟩, ⟨[10, 6, 11, 12], [], [13], [(.slot 98)]⟩, ⟨[], [13], [14], [(.slot 94)]⟩, ⟨[14], [], [15], [(.slot 99)]⟩, ⟨[14], [], [16], [(.slot 100)]⟩, ⟨[14], [], [17], [(.slot 101)]⟩, ⟨[15], [], [18], [(.slot 22)]⟩, ⟨[16], [], [19], [(.slot 23)]⟩, ⟨[17], [], [20], [(.slot 15)]⟩]) (es' := [(_, _), (_, _), (_, _), (_, _), (_, _), (_, _), (_, _), (_, _), (_, _), (22, .v (.int .i64 v27.1)), (23, .v (.int .i64 v27.2.1)), (15, .v (.int .i64 v27.2.2))]) (by kernel_rfl) rfl rfl
              ⟨st_plain rfl (op_move _ _ _ _ rfl rfl),
                st_plain rfl (op_move _ _ _ _ rfl rfl),
                st_plain rfl (op_move _ _ _ _ rfl rfl),
                st_plain rfl (op_call _ _ 18 _ _ rfl Try.call18 rfl (ok_bits_Get v7 at_ n _ hv27) rfl rfl),
                st_plain rfl (op_move_take _ _ _ _ rfl),
                st_plain rfl (op_extract _ _ _ _ _ rfl rfl (Nat.le_of_ble_eq_true rfl) rfl rfl),
                st_plain rfl (op_extract _ _ _ _ _ rfl rfl (Nat.le_of_ble_eq_true rfl) rfl rfl),
                st_plain rfl (op_extract _ _ _ _ _ rfl rfl (Nat.le_of_ble_eq_true rfl) rfl rfl),
                st_plain rfl (op_assign _ _ _ _ rfl rfl),
                st_plain rfl (op_assign _ _ _ _ rfl rfl),
                st_plain rfl (op_assign _ _ _ _ rfl rfl),
                trivial⟩ ?_
            refine pt_then ?_
            refine ht_seq ?_
            obtain ⟨v28, hv28, h⟩ := bind_some h
            refine ht_seqR hn (El := (_ :: _ :: _ :: _ :: _ :: _ :: _ :: _ :: _ :: _ :: _ :: _ :: (103, .fl .shr 1 (List.map (Value.int .u8) b)) :: (104, .v (.int .i64 at_)) :: (105, .v (.int .i64 n)) :: (106, .tup [.v (.int .i64 v28.1), .v (.int .i64 v28.2.1), .v (.int .i64 v28.2.2)]) :: (102, .tup [.v (.int .i64 v28.1), .v (.int .i64 v28.2.1), .v (.int .i64 v28.2.2)]) :: (107, .v (.int .i64 v28.1)) :: (108, .v (.int .i64 v28.2.1)) :: (109, .v (.int .i64 v28.2.2)) :: (24, .v (.int .i64 v28.1)) :: (25, .v (.int .i64 v28.2.1)) :: (17, .v (.int .i64 v28.2.2)) :: [])) (init := [0, 1, 2, 3, 4, 5, 6, 7, 8, 9, 10, 11]) (fin := [0, 1, 2, 4, 5, 6, 7, 8, 9, 10, 11, 20, 21, 22]) (sps := [⟨[2], [], [12], [(.slot 103)]⟩, ⟨[3], [], [13], [(.slot 104)]⟩, ⟨[1], [], [14], [(.slot 105)]⟩, ⟨[12, 13, 14], [], [15], [(.slot 106)]⟩, ⟨[], [15], [16], [(.slot 102)]⟩, ⟨[16], [], [17], [(.slot 107)]⟩, ⟨[16], [], [18], [(.slot 108)]⟩, ⟨[16], [], [19], [(.slot 109)]⟩, ⟨[17], [], [20], [(.slot 24)]⟩, ⟨[18], [], [21], [(.slot 25)]⟩, ⟨[19], [], [22], [(.slot 17)]⟩]) (es' := [(_, _), (_, _), (_, _), (_, _), (_, _), (_, _), (_, _), (_, _), (_, _), (_, _), (_, _), (24, .v (.int .i64 v28.1)), (25, .v (.int .i64 v28.2.1)), (17, .v (.int .i64 v28.2.2))]) (by kernel_rfl) rfl rfl
              ⟨st_plain rfl (op_move _ _ _ _ rfl rfl),
                st_plain rfl (op_move _ _ _ _ rfl rfl),
                st_plain rfl (op_move _ _ _ _ rfl rfl),
                st_plain rfl (op_call _ _ 19 _ _ rfl Try.call19 rfl (ok_wherryref01_Get b at_ n _ hv28) rfl rfl),
                st_plain rfl (op_move_take _ _ _ _ rfl),
                st_plain rfl (op_extract _ _ _ _ _ rfl rfl (Nat.le_of_ble_eq_true rfl) rfl rfl),
                st_plain rfl (op_extract _ _ _ _ _ rfl rfl (Nat.le_of_ble_eq_true rfl) rfl rfl),
                st_plain rfl (op_extract _ _ _ _ _ rfl rfl (Nat.le_of_ble_eq_true rfl) rfl rfl),
                st_plain rfl (op_assign _ _ _ _ rfl rfl),
                st_plain rfl (op_assign _ _ _ _ rfl rfl),
                st_plain rfl (op_assign _ _ _ _ rfl rfl),
                trivial⟩ ?_
            refine pt_then ?_
            refine ht_seq ?_
            obtain ⟨v29, hv29, h⟩ := bind_some h
            refine ht_seqR hn (El := (_ :: _ :: _ :: _ :: _ :: _ :: _ :: _ :: _ :: _ :: _ :: _ :: _ :: _ :: (111, .v (.int .i64 v)) :: (112, .v (.int .i64 n)) :: (113, .tup [.v (.int .i64 v29.1), .v (.int .i64 v29.2)]) :: (110, .tup [.v (.int .i64 v29.1), .v (.int .i64 v29.2)]) :: (114, .v (.int .i64 v29.1)) :: (115, .v (.int .i64 v29.2)) :: (26, .v (.int .i64 v29.1)) :: (19, .v (.int .i64 v29.2)) :: [])) (init := [0, 1, 2, 3, 4, 5, 6, 7, 8, 9, 10, 11, 12, 13]) (fin := [0, 1, 2, 3, 4, 5, 6, 7, 8, 9, 10, 11, 12, 13, 20, 21]) (sps := [⟨[0], [], [14], [(.slot 111)]⟩, ⟨[1], [], [15], [(.slot 112)]⟩, ⟨[14, 15], [], [16], [(.slot 113)]⟩, ⟨[], [16], [17], [(.slot 110)]⟩, ⟨[17], [], [18], [(.slot 114)]⟩, ⟨[17], [], [19], [(.slot 115)]⟩, ⟨[18], [], [20], [(.slot 26)]⟩, ⟨[19], [], [21], [(.slot 19)]⟩]) (es' := ((_, _) :: (_, _) :: (_, _) :: (_, _) :: (_, _) :: (_, _) :: (_, _) :: (_, _) :: (_, _) :: (_, _) :: (_, _) :: (_, _) :: (_, _) :: (_, _) :: (26, .v (.int .i64 v29.1)) :: (19, .v (.int .i64 v29.2)) :: [])) (by kernel_rfl) rfl rfl
              ⟨st_plain rfl (op_move _ _ _ _ rfl rfl),
                st_plain rfl (op_move _ _ _ _ rfl rfl),
                st_plain rfl (op_call _ _ 20 _ _ rfl Try.call20 rfl (ok_bits_Turn v n _ hv29) rfl rfl),
                st_plain rfl (op_move_take _ _ _ _ rfl),
                st_plain rfl (op_extract _ _ _ _ _ rfl rfl (Nat.le_of_ble_eq_true rfl) rfl rfl),
                st_plain rfl (op_extract _ _ _ _ _ rfl rfl (Nat.le_of_ble_eq_true rfl) rfl rfl),
                st_plain rfl (op_assign _ _ _ _ rfl rfl),
                st_plain rfl (op_assign _ _ _ _ rfl rfl),
                trivial⟩ ?_
            refine pt_then ?_
            refine ht_seq ?_
            obtain ⟨v30, hv30, h⟩ := bind_some h
            refine ht_seqR hn (El := (_ :: _ :: _ :: _ :: _ :: _ :: _ :: _ :: _ :: _ :: _ :: _ :: _ :: _ :: _ :: _ :: (117, .v (.int .i64 v)) :: (118, .v (.int .i64 n)) :: (119, .tup [.v (.int .i64 v30.1), .v (.int .i64 v30.2)]) :: (116, .tup [.v (.int .i64 v30.1), .v (.int .i64 v30.2)]) :: (120, .v (.int .i64 v30.1)) :: (121, .v (.int .i64 v30.2)) :: (27, .v (.int .i64 v30.1)) :: (21, .v (.int .i64 v30.2)) :: [])) (init := [0, 1, 2, 3, 4, 5, 6, 7, 8, 9, 10, 11, 12, 13, 14, 15]) (fin := [2, 3, 4, 5, 6, 7, 8, 9, 10, 11, 12, 13, 14, 15, 22, 23]) (sps := [⟨[0], [], [16], [(.slot 117)]⟩, ⟨[1], [], [17], [(.slot 118)]⟩, ⟨[16, 17], [], [18], [(.slot 119)]⟩, ⟨[], [18], [19], [(.slot 116)]⟩, ⟨[19], [], [20], [(.slot 120)]⟩, ⟨[19], [], [21], [(.slot 121)]⟩, ⟨[20], [], [22], [(.slot 27)]⟩, ⟨[21], [], [23], [(.slot 21)]⟩]) (es' := ((_, _) :: (_, _) :: (_, _) :: (_, _) :: (_, _) :: (_, _) :: (_, _) :: (_, _) :: (_, _) :: (_, _) :: (_, _) :: (_, _) :: (_, _) :: (_, _) :: (27, .v (.int .i64 v30.1)) :: (21, .v (.int .i64 v30.2)) :: [])) (by kernel_rfl) rfl rfl
              ⟨st_plain rfl (op_move _ _ _ _ rfl rfl),
                st_plain rfl (op_move _ _ _ _ rfl rfl),
                st_plain rfl (op_call _ _ 21 _ _ rfl Try.call21 rfl (ok_wherryref01_Turn v n _ hv30) rfl rfl),
                st_plain rfl (op_move_take _ _ _ _ rfl),
                st_plain rfl (op_extract _ _ _ _ _ rfl rfl (Nat.le_of_ble_eq_true rfl) rfl rfl),
                st_plain rfl (op_extract _ _ _ _ _ rfl rfl (Nat.le_of_ble_eq_true rfl) rfl rfl),
                st_plain rfl (op_assign _ _ _ _ rfl rfl),
                st_plain rfl (op_assign _ _ _ _ rfl rfl),
                trivial⟩ ?_
            refine pt_then ?_
            refine ht_seq ?_
            refine ht_seq ?_
            refine ht_joinS h (fun (s31 : Bool) => [(3, .fl .shr 1 (List.map (Value.int .u8) b)), (5, .box 24 [.fl .shr 1 (List.map (Value.int .u8) s.B), .v (.int .i64 s.N)]), (11, .box 24 [.fl (.own 5) 1 (List.map (Value.int .u8) v6.B), .v (.int .i64 v6.N)]), (12, .fl (.own 5) 1 (List.map (Value.int .u8) v7)), (14, .box 24 [.fl (.own 5) 1 (List.map (Value.int .u8) v15.1.B), .v (.int .i64 v15.1.N)]), (18, .box 24 [.fl (.own 5) 1 (List.map (Value.int .u8) v17.1.B), .v (.int .i64 v17.1.N)]), (144, .v (.bool s31))]) ?_ ?_
            · rintro s31 h
              refine pt_then ?_
              refine ht_cond _ rfl (fun hb35 => ?_) (fun hb35 => ?_)
              · have h := cond_t hb35 h
                refine ht_seq ?_
                refine ht_seqR hn (El := [_, _, _, _, _, _, _, (10, .v (.bool false))]) (init := [0, 1, 2, 3, 4, 5, 6]) (fin := [7]) (sps := [⟨[], [], [7], [(.slot 10)]⟩]) (es' := [(10, .v (.bool false))]) (by kernel_rfl) rfl rfl
                  ⟨st_plain rfl (op_assign _ _ _ _ rfl rfl),
                    trivial⟩ ?_
                refine pt_then ?_
                refine ht_ret ?_
                refine pt_r_then ?_
                obtain rfl := Option.some.inj h
                exact pt_ret hio rfl (.tmp _ _ .nil) rfl rfl
              · have h := cond_f hb35 h
                refine ht_skip ?_
                refine pt_then ?_
                refine ht_seq ?_
                obtain ⟨v36, hv36, h⟩ := bind_some h
                refine ht_seqR hn (El := [_, _, _, _, _, _, _, (145, .ptr 14 0), (146, .same (.cell 14 0)), (147, .tup []), (14, .box 24 [.any, .v (.int .i64 v15.1.N)])]) (init := [0, 1, 2, 3, 4, 5, 6]) (fin := [0, 1, 2, 3, 5]) (sps := [⟨[4], [], [7], [(.slot 145)]⟩, ⟨[7, 4], [], [8], [(.slot 146)]⟩, ⟨[8], [4], [10, 9], [(.slot 147)]⟩]) (es' := [(_, _), (_, _), (_, _), (_, _), (_, _)]) (by kernel_rfl) rfl rfl
                  ⟨st_plain rfl (op_fieldAddr _ _ _ _ 14 0 _ Try.underlying24 rfl sz22 rfl rfl (by decide)),
                    st_plain rfl (op_load _ _ _ _ _ _ Try.underlying22 rfl rfl rfl (Nat.le_of_ble_eq_true rfl) rfl rfl rfl),
                    st_plain rfl (op_callE_cell _ _ 14 0 22 _ _ rfl Try.call22 rfl rfl (Nat.le_of_ble_eq_true rfl) rfl (ok_wherrykeep_Over v15.1.B _ hv36) rfl rfl rfl (by decide) rfl rfl),
                    trivial⟩ ?_
                refine pt_then ?_
                refine ht_seq ?_
                obtain ⟨v37, hv37, h⟩ := bind_some h
                refine ht_seqR hn (El := [_, _, _, _, _, (148, .ptr 18 0), (149, .same (.cell 18 0)), (150, .tup []), (18, .box 24 [.any, .v (.int .i64 v17.1.N)])]) (init := [0, 1, 2, 3, 4]) (fin := [0, 1, 2, 3]) (sps := [⟨[4], [], [5], [(.slot 148)]⟩, ⟨[5, 4], [], [6], [(.slot 149)]⟩, ⟨[6], [4], [8, 7], [(.slot 150)]⟩]) (es' := [(_, _), (_, _), (_, _), (_, _)]) (by kernel_rfl) rfl rfl
                  ⟨st_plain rfl (op_fieldAddr _ _ _ _ 18 0 _ Try.underlying24 rfl sz22 rfl rfl (by decide)),
                    st_plain rfl (op_load _ _ _ _ _ _ Try.underlying22 rfl rfl rfl (Nat.le_of_ble_eq_true rfl) rfl rfl rfl),
                    st_plain rfl (op_callE_cell _ _ 18 0 22 _ _ rfl Try.call22 rfl rfl (Nat.le_of_ble_eq_true rfl) rfl (ok_wherrykeep_Over v17.1.B _ hv37) rfl rfl rfl (by decide) rfl rfl),
                    trivial⟩ ?_
                refine pt_then ?_
                refine ht_seq ?_
                refine ht_joinS h (fun (s41 : Bool) => [(10, .v (.bool s41))]) ?_ ?_
                · rintro s41 h
                  refine pt_then ?_
                  refine ht_ret ?_
                  obtain rfl := Option.some.inj h
                  exact pt_ret hio rfl (.tmp _ _ .nil) rfl rfl
                · intro u42 h hl43 hr44
                  obtain ⟨v38, hv38, h⟩ := bind_some h
                  refine cond_some h (fun hg21_3 h => ?_) (fun hg21_3 h => ?_)
                  · obtain ⟨v39, hv39, h⟩ := bind_some h
                    refine cond_some h (fun hg21_8 h => ?_) (fun hg21_8 h => ?_)
                    · obtain ⟨v40, hv40, h⟩ := bind_some h
                      refine ht_seqR hn (El := (_ :: _ :: _ :: _ :: (151, .agg [.fl (.own 5) 1 (List.map (Value.int .u8) v6.B), .v (.int .i64 v6.N)]) :: (152, .agg [.fl .shr 1 (List.map (Value.int .u8) s.B), .v (.int .i64 s.N)]) :: (153, .v (.bool v38)) :: (154, .v (.bool true)) :: (155, .fl (.own 5) 1 (List.map (Value.int .u8) v7)) :: (156, .fl .shr 1 (List.map (Value.int .u8) b)) :: (157, .v (.bool v39)) :: (158, .v (.bool v39)) :: (159, .v (.bool true)) :: (160, .v (.bool v40)) :: (161, .v (.bool v40)) :: (10, .v (.bool v40)) :: [])) (init := [0, 1, 2, 3]) (fin := [15]) (sps := [⟨[], [2], [4], [(.slot 151)]⟩, ⟨[1], [], [5], [(.slot 152)]⟩, ⟨[4, 5], [], [6], [(.slot 153)]⟩, ⟨[6], [], [7], [(.slot 154)]⟩, ⟨[7], [3], [8], [(.slot 155)]⟩, ⟨[7, 0], [], [9], [(.slot 156)]⟩, ⟨[7, 8, 9], [], [10], [(.slot 157)]⟩, ⟨[7, 10], [], [11], [(.slot 158)]⟩, ⟨[11], [], [12], [(.slot 159)]⟩, ⟨[12], [], [13], [(.slot 160)]⟩, ⟨[12, 13], [], [14], [(.slot 161)]⟩, ⟨[14], [], [15], [(.slot 10)]⟩]) (es' := [(10, .v (.bool v40))]) (by kernel_rfl) rfl rfl
                        ⟨st_plain rfl (op_loadA_take _ _ _ _ Try.underlying24 rfl sz24 rfl rfl),
                          st_plain rfl (op_loadA _ _ _ _ _ _ _ Try.underlying24 rfl sz24 rfl rfl (Nat.le_of_ble_eq_true rfl) rfl rfl),
                          st_plain rfl (op_call _ _ 17 _ _ rfl Try.call17 rfl (ok_wherrykeep_Bits (T_Bits.mk v6.B v6.N) (T_Bits.mk s.B s.N) _ hv38) rfl rfl),
                          st_plain rfl (op_move _ _ _ _ (congrArg (fun b => AV.v (Value.bool b)) hg21_3) rfl),
                          st_run 3 154 true rfl rfl rfl (List.Mem.head _) (op_move_take _ _ _ _ rfl),
                          st_run 3 154 true rfl rfl rfl (List.Mem.head _) (op_move _ _ _ _ rfl rfl),
                          st_run 3 154 true rfl rfl rfl (List.Mem.head _) (op_call _ _ 23 _ _ rfl Try.call23 rfl (ok_wherrykeep_Bytes v7 b _ hv39) rfl rfl),
                          st_plain rfl (op_pick _ _ true _ rfl rfl),
                          st_plain rfl (op_move _ _ _ _ (congrArg (fun b => AV.v (Value.bool b)) hg21_8) rfl),
                          st_run 8 159 true rfl rfl rfl (List.Mem.head _) (op_call _ _ 24 _ _ rfl Try.call24 rfl (ok_wherrylaw01_wakes  _ hv40) rfl rfl),
                          st_plain rfl (op_pick _ _ true _ rfl rfl),
                          st_plain rfl (op_assign _ _ _ _ rfl rfl),
                          trivial⟩ ?_
                      exact hl43 _ (Option.some.inj h).symm
                    · refine ht_seqR hn (El := (_ :: _ :: _ :: _ :: (151, .agg [.fl (.own 5) 1 (List.map (Value.int .u8) v6.B), .v (.int .i64 v6.N)]) :: (152, .agg [.fl .shr 1 (List.map (Value.int .u8) s.B), .v (.int .i64 s.N)]) :: (153, .v (.bool v38)) :: (154, .v (.bool true)) :: (155, .fl (.own 5) 1 (List.map (Value.int .u8) v7)) :: (156, .fl .shr 1 (List.map (Value.int .u8) b)) :: (157, .v (.bool v39)) :: (158, .v (.bool v39)) :: (159, .v (.bool false)) :: (160, .v undef) :: (161, .v (.bool false)) :: (10, .v (.bool false)) :: [])) (init := [0, 1, 2, 3]) (fin := [15]) (sps := [⟨[], [2], [4], [(.slot 151)]⟩, ⟨[1], [], [5], [(.slot 152)]⟩, ⟨[4, 5], [], [6], [(.slot 153)]⟩, ⟨[6], [], [7], [(.slot 154)]⟩, ⟨[7], [3], [8], [(.slot 155)]⟩, ⟨[7, 0], [], [9], [(.slot 156)]⟩, ⟨[7, 8, 9], [], [10], [(.slot 157)]⟩, ⟨[7, 10], [], [11], [(.slot 158)]⟩, ⟨[11], [], [12], [(.slot 159)]⟩, ⟨[12], [], [13], [(.slot 160)]⟩, ⟨[12], [], [14], [(.slot 161)]⟩, ⟨[14], [], [15], [(.slot 10)]⟩]) (es' := [(10, .v (.bool false))]) (by kernel_rfl) rfl rfl
                        ⟨st_plain rfl (op_loadA_take _ _ _ _ Try.underlying24 rfl sz24 rfl rfl),
                          st_plain rfl (op_loadA _ _ _ _ _ _ _ Try.underlying24 rfl sz24 rfl rfl (Nat.le_of_ble_eq_true rfl) rfl rfl),
                          st_plain rfl (op_call _ _ 17 _ _ rfl Try.call17 rfl (ok_wherrykeep_Bits (T_Bits.mk v6.B v6.N) (T_Bits.mk s.B s.N) _ hv38) rfl rfl),
                          st_plain rfl (op_move _ _ _ _ (congrArg (fun b => AV.v (Value.bool b)) hg21_3) rfl),
                          st_run 3 154 true rfl rfl rfl (List.Mem.head _) (op_move_take _ _ _ _ rfl),
                          st_run 3 154 true rfl rfl rfl (List.Mem.head _) (op_move _ _ _ _ rfl rfl),
                          st_run 3 154 true rfl rfl rfl (List.Mem.head _) (op_call _ _ 23 _ _ rfl Try.call23 rfl (ok_wherrykeep_Bytes v7 b _ hv39) rfl rfl),
                          st_plain rfl (op_pick _ _ true _ rfl rfl),
                          st_plain rfl (op_move _ _ _ _ (congrArg (fun b => AV.v (Value.bool b)) hg21_8) rfl),
                          st_skip 8 159 _ true rfl rfl rfl rfl (List.Mem.head _),
                          st_plain rfl (op_pick _ _ false _ rfl rfl),
                          st_plain rfl (op_assign _ _ _ _ rfl rfl),
                          trivial⟩ ?_
                      exact hl43 _ (Option.some.inj h).symm
                  · refine ht_seqR hn (El := (_ :: _ :: _ :: _ :: (151, .agg [.fl (.own 5) 1 (List.map (Value.int .u8) v6.B), .v (.int .i64 v6.N)]) :: (152, .agg [.fl .shr 1 (List.map (Value.int .u8) s.B), .v (.int .i64 s.N)]) :: (153, .v (.bool v38)) :: (154, .v (.bool false)) :: (155, .v undef) :: (156, .v undef) :: (157, .v undef) :: (158, .v (.bool false)) :: (159, .v (.bool false)) :: (160, .v undef) :: (161, .v (.bool false)) :: (10, .v (.bool false)) :: [])) (init := [0, 1, 2, 3]) (fin := [15]) (sps := [⟨[], [2], [4], [(.slot 151)]⟩, ⟨[1], [], [5], [(.slot 152)]⟩, ⟨[4, 5], [], [6], [(.slot 153)]⟩, ⟨[6], [], [7], [(.slot 154)]⟩, ⟨[7], [], [8], [(.slot 155)]⟩, ⟨[7], [], [9], [(.slot 156)]⟩, ⟨[7], [], [10], [(.slot 157)]⟩, ⟨[7], [], [11], [(.slot 158)]⟩, ⟨[11], [], [12], [(.slot 159)]⟩, ⟨[12], [], [13], [(.slot 160)]⟩, ⟨[12], [], [14], [(.slot 161)]⟩, ⟨[14], [], [15], [(.slot 10)]⟩]) (es' := [(10, .v (.bool false))]) (by kernel_rfl) rfl rfl
                      ⟨st_plain rfl (op_loadA_take _ _ _ _ Try.underlying24 rfl sz24 rfl rfl),
                        st_plain rfl (op_loadA _ _ _ _ _ _ _ Try.underlying24 rfl sz24 rfl rfl (Nat.le_of_ble_eq_true rfl) rfl rfl),
                        st_plain rfl (op_call _ _ 17 _ _ rfl Try.call17 rfl (ok_wherrykeep_Bits (T_Bits.mk v6.B v6.N) (T_Bits.mk s.B s.N) _ hv38) rfl rfl),
                        st_plain rfl (op_move _ _ _ _ (congrArg (fun b => AV.v (Value.bool b)) hg21_3) rfl),
                        st_skip 3 154 _ true rfl rfl rfl rfl (List.Mem.head _),
                        st_skip 3 154 _ true rfl rfl rfl rfl (List.Mem.head _),
                        st_skip 3 154 _ true rfl rfl rfl rfl (List.Mem.head _),
                        st_plain rfl (op_pick _ _ false _ rfl rfl),
                        st_plain rfl (op_move _ _ _ _ rfl rfl),
                        st_skip 8 159 _ true rfl rfl rfl rfl (List.Mem.head _),
                        st_plain rfl (op_pick _ _ false _ rfl rfl),
                        st_plain rfl (op_assign _ _ _ _ rfl rfl),
                        trivial⟩ ?_
                    exact hl43 _ (Option.some.inj h).symm
            · intro u32 h hl33 hr34
              refine cond_some h (fun hg17_3 h => ?_) (fun hg17_3 h => ?_)
              · refine ht_seqR hn (El := (_ :: _ :: _ :: _ :: _ :: _ :: _ :: _ :: _ :: _ :: _ :: _ :: _ :: _ :: _ :: _ :: (122, .v (.int .i64 v27.2.2)) :: (123, .v (.int .i64 v28.2.2)) :: (124, .v (.bool (v27.2.2 != v28.2.2))) :: (125, .v (.bool true)) :: (126, .v undef) :: (127, .v undef) :: (128, .v undef) :: (129, .v (.bool true)) :: (130, .v (.bool true)) :: (131, .v undef) :: (132, .v undef) :: (133, .v undef) :: (134, .v (.bool true)) :: (135, .v (.bool true)) :: (136, .v undef) :: (137, .v undef) :: (138, .v undef) :: (139, .v (.bool true)) :: (140, .v (.bool true)) :: (141, .v undef) :: (142, .v undef) :: (143, .v undef) :: (144, .v (.bool true)) :: [])) (init := [0, 1, 2, 3, 4, 5, 6, 7, 8, 9, 10, 11, 12, 13, 14, 15]) (fin := [0, 1, 2, 3, 4, 5, 38]) (sps := (⟨[8], [], [16], [(.slot 122)]⟩ :: ⟨[11], [], [17], [(.slot 123)]⟩ :: ⟨[16, 17], [], [18], [(.slot 124)]⟩ :: ⟨[18], [], [19], [(.slot 125)]⟩ :: ⟨[19], [], [20], [(.slot 126)]⟩ :: ⟨[19], [], [21], [(.slot 127)]⟩ :: ⟨[19], [], [22], [(.slot 128)]⟩ :: ⟨[19], [], [23], [(.slot 129)]⟩ :: ⟨[23], [], [24], [(.slot 130)]⟩ :: ⟨[24], [], [25], [(.slot 131)]⟩ :: ⟨[24], [], [26], [(.slot 132)]⟩ :: ⟨[24], [], [27], [(.slot 133)]⟩ :: ⟨[24], [], [28], [(.slot 134)]⟩ :: ⟨[28], [], [29], [(.slot 135)]⟩ :: ⟨[29], [], [30], [(.slot 136)]⟩ :: ⟨[29], [], [31], [(.slot 137)]⟩ :: ⟨[29], [], [32], [(.slot 138)]⟩ :: ⟨[29], [], [33], [(.slot 139)]⟩ :: ⟨[33], [], [34], [(.slot 140)]⟩ :: ⟨[34], [], [35], [(.slot 141)]⟩ :: ⟨[34], [], [36], [(.slot 142)]⟩ :: ⟨[34], [], [37], [(.slot 143)]⟩ :: ⟨[34], [], [38], [(.slot 144)]⟩ :: [])) (es' := [(_, _), (_, _), (_, _), (_, _), (_, _), (_, _), (144, .v (.bool true))]) (by kernel_rfl) rfl rfl
                  ⟨st_plain rfl (op_move _ _ _ _ rfl rfl),
                    st_plain rfl (op_move _ _ _ _ rfl rfl),
                    st_plain rfl (op_bin _ _ _ _ _ rfl rfl rfl),
                    st_plain rfl (op_move _ _ _ _ (congrArg (fun b => AV.v (Value.bool b)) hg17_3) rfl),
                    st_skip 3 125 _ false rfl rfl rfl rfl (List.Mem.head _),
                    st_skip 3 125 _ false rfl rfl rfl rfl (List.Mem.head _),
                    st_skip 3 125 _ false rfl rfl rfl rfl (List.Mem.head _),
                    st_plain rfl (op_pick _ _ true _ rfl rfl),
                    st_plain rfl (op_move _ _ _ _ rfl rfl),
                    st_skip 8 130 _ false rfl rfl rfl rfl (List.Mem.head _),
                    st_skip 8 130 _ false rfl rfl rfl rfl (List.Mem.head _),
                    st_skip 8 130 _ false rfl rfl rfl rfl (List.Mem.head _),
                    st_plain rfl (op_pick _ _ true _ rfl rfl),
                    st_plain rfl (op_move _ _ _ _ rfl rfl),
                    st_skip 13 135 _ false rfl rfl rfl rfl (List.Mem.head _),
                    st_skip 13 135 _ false rfl rfl rfl rfl (List.Mem.head _),
                    st_skip 13 135 _ false rfl rfl rfl rfl (List.Mem.head _),
                    st_plain rfl (op_pick _ _ true _ rfl rfl),
                    st_plain rfl (op_move _ _ _ _ rfl rfl),
                    st_skip 18 140 _ false rfl rfl rfl rfl (List.Mem.head _),
                    st_skip 18 140 _ false rfl rfl rfl rfl (List.Mem.head _),
                    st_skip 18 140 _ false rfl rfl rfl rfl (List.Mem.head _),
                    st_plain rfl (op_pick _ _ true _ rfl rfl),
                    trivial⟩ ?_
                exact hl33 _ (Option.some.inj h).symm
              · refine cond_some h (fun hg17_8 h => ?_) (fun hg17_8 h => ?_)
                · refine ht_seqR hn (El := (_ :: _ :: _ :: _ :: _ :: _ :: _ :: _ :: _ :: _ :: _ :: _ :: _ :: _ :: _ :: _ :: (122, .v (.int .i64 v27.2.2)) :: (123, .v (.int .i64 v28.2.2)) :: (124, .v (.bool (v27.2.2 != v28.2.2))) :: (125, .v (.bool false)) :: (126, .v (.int .i64 v27.1)) :: (127, .v (.int .i64 v28.1)) :: (128, .v (.bool (v27.1 != v28.1))) :: (129, .v (.bool (v27.1 != v28.1))) :: (130, .v (.bool true)) :: (131, .v undef) :: (132, .v undef) :: (133, .v undef) :: (134, .v (.bool true)) :: (135, .v (.bool true)) :: (136, .v undef) :: (137, .v undef) :: (138, .v undef) :: (139, .v (.bool true)) :: (140, .v (.bool true)) :: (141, .v undef) :: (142, .v undef) :: (143, .v undef) :: (144, .v (.bool true)) :: [])) (init := [0, 1, 2, 3, 4, 5, 6, 7, 8, 9, 10, 11, 12, 13, 14, 15]) (fin := [0, 1, 2, 3, 4, 5, 38]) (sps := (⟨[8], [], [16], [(.slot 122)]⟩ :: ⟨[11], [], [17], [(.slot 123)]⟩ :: ⟨[16, 17], [], [18], [(.slot 124)]⟩ :: ⟨[18], [], [19], [(.slot 125)]⟩ :: ⟨[19, 6], [], [20], [(.slot 126)]⟩ :: ⟨[19, 9], [], [21], [(.slot 127)]⟩ :: ⟨[19, 20, 21], [], [22], [(.slot 128)]⟩ :: ⟨[19, 22], [], [23], [(.slot 129)]⟩ :: ⟨[23], [], [24], [(.slot 130)]⟩ :: ⟨[24], [], [25], [(.slot 131)]⟩ :: ⟨[24], [], [26], [(.slot 132)]⟩ :: ⟨[24], [], [27], [(.slot 133)]⟩ :: ⟨[24], [], [28], [(.slot 134)]⟩ :: ⟨[28], [], [29], [(.slot 135)]⟩ :: ⟨[29], [], [30], [(.slot 136)]⟩ :: ⟨[29], [], [31], [(.slot 137)]⟩ :: ⟨[29], [], [32], [(.slot 138)]⟩ :: ⟨[29], [], [33], [(.slot 139)]⟩ :: ⟨[33], [], [34], [(.slot 140)]⟩ :: ⟨[34], [], [35], [(.slot 141)]⟩ :: ⟨[34], [], [36], [(.slot 142)]⟩ :: ⟨[34], [], [37], [(.slot 143)]⟩ :: ⟨[34], [], [38], [(.slot 144)]⟩ :: [])) (es' := [(_, _), (_, _), (_, _), (_, _), (_, _), (_, _), (144, .v (.bool true))]) (by kernel_rfl) rfl rfl
                    ⟨st_plain rfl (op_move _ _ _ _ rfl rfl),
                      st_plain rfl (op_move _ _ _ _ rfl rfl),
                      st_plain rfl (op_bin _ _ _ _ _ rfl rfl rfl),
                      st_plain rfl (op_move _ _ _ _ (congrArg (fun b => AV.v (Value.bool b)) hg17_3) rfl),
                      st_run 3 125 false rfl rfl rfl (List.Mem.head _) (op_move _ _ _ _ rfl rfl),
                      st_run 3 125 false rfl rfl rfl (List.Mem.head _) (op_move _ _ _ _ rfl rfl),
                      st_run 3 125 false rfl rfl rfl (List.Mem.head _) (op_bin _ _ _ _ _ rfl rfl rfl),
                      st_plain rfl (op_pick _ _ false _ rfl rfl),
                      st_plain rfl (op_move _ _ _ _ (congrArg (fun b => AV.v (Value.bool b)) hg17_8) rfl),
                      st_skip 8 130 _ false rfl rfl rfl rfl (List.Mem.head _),
                      st_skip 8 130 _ false rfl rfl rfl rfl (List.Mem.head _),
                      st_skip 8 130 _ false rfl rfl rfl rfl (List.Mem.head _),
                      st_plain rfl (op_pick _ _ true _ rfl rfl),
                      st_plain rfl (op_move _ _ _ _ rfl rfl),
                      st_skip 13 135 _ false rfl rfl rfl rfl (List.Mem.head _),
                      st_skip 13 135 _ false rfl rfl rfl rfl (List.Mem.head _),
                      st_skip 13 135 _ false rfl rfl rfl rfl (List.Mem.head _),
                      st_plain rfl (op_pick _ _ true _ rfl rfl),
                      st_plain rfl (op_move _ _ _ _ rfl rfl),
                      st_skip 18 140 _ false rfl rfl rfl rfl (List.Mem.head _),
                      st_skip 18 140 _ false rfl rfl rfl rfl (List.Mem.head _),
                      st_skip 18 140 _ false rfl rfl rfl rfl (List.Mem.head _),
                      st_plain rfl (op_pick _ _ true _ rfl rfl),
                      trivial⟩ ?_
                  exact hl33 _ (Option.some.inj h).symm
                · refine cond_some h (fun hg17_13 h => ?_) (fun hg17_13 h => ?_)
                  · refine ht_seqR hn (El := (_ :: _ :: _ :: _ :: _ :: _ :: _ :: _ :: _ :: _ :: _ :: _ :: _ :: _ :: _ :: _ :: (122, .v (.int .i64 v27.2.2)) :: (123, .v (.int .i64 v28.2.2)) :: (124, .v (.bool (v27.2.2 != v28.2.2))) :: (125, .v (.bool false)) :: (126, .v (.int .i64 v27.1)) :: (127, .v (.int .i64 v28.1)) :: (128, .v (.bool (v27.1 != v28.1))) :: (129, .v (.bool (v27.1 != v28.1))) :: (130, .v (.bool false)) :: (131, .v (.int .i64 v27.2.1)) :: (132, .v (.int .i64 v28.2.1)) :: (133, .v (.bool (v27.2.1 != v28.2.1))) :: (134, .v (.bool (v27.2.1 != v28.2.1))) :: (135, .v (.bool true)) :: (136, .v undef) :: (137, .v undef) :: (138, .v undef) :: (139, .v (.bool true)) :: (140, .v (.bool true)) :: (141, .v undef) :: (142, .v undef) :: (143, .v undef) :: (144, .v (.bool true)) :: [])) (init := [0, 1, 2, 3, 4, 5, 6, 7, 8, 9, 10, 11, 12, 13, 14, 15]) (fin := [0, 1, 2, 3, 4, 5, 38]) (sps := (⟨[8], [], [16], [(.slot 122)]⟩ :: ⟨[11], [], [17], [(.slot 123)]⟩ :: ⟨[16, 17], [], [18], [(.slot 124)]⟩ :: ⟨[18], [], [19], [(.slot 125)]⟩ :: ⟨[19, 6], [], [20], [(.slot 126)]⟩ :: ⟨[19, 9], [], [21], [(.slot 127)]⟩ :: ⟨[19, 20, 21], [], [22], [(.slot 128)]⟩ :: ⟨[19, 22], [], [23], [(.slot 129)]⟩ :: ⟨[23], [], [24], [(.slot 130)]⟩ :: ⟨[24, 7], [], [25], [(.slot 131)]⟩ :: ⟨[24, 10], [], [26], [(.slot 132)]⟩ :: ⟨[24, 25, 26], [], [27], [(.slot 133)]⟩ :: ⟨[24, 27], [], [28], [(.slot 134)]⟩ :: ⟨[28], [], [29], [(.slot 135)]⟩ :: ⟨[29], [], [30], [(.slot 136)]⟩ :: ⟨[29], [], [31], [(.slot 137)]⟩ :: ⟨[29], [], [32], [(.slot 138)]⟩ :: ⟨[29], [], [33], [(.slot 139)]⟩ :: ⟨[33], [], [34], [(.slot 140)]⟩ :: ⟨[34], [], [35], [(.slot 141)]⟩ :: ⟨[34], [], [36], [(.slot 142)]⟩ :: ⟨[34], [], [37], [(.slot 143)]⟩ :: ⟨[34], [], [38], [(.slot 144)]⟩ :: [])) (es' := [(_, _), (_, _), (_, _), (_, _), (_, _), (_, _), (144, .v (.bool true))]) (by kernel_rfl) rfl rfl
                      ⟨st_plain rfl (op_move _ _ _ _ rfl rfl),
                        st_plain rfl (op_move _ _ _ _ rfl rfl),
                        st_plain rfl (op_bin _ _ _ _ _ rfl rfl rfl),
                        st_plain rfl (op_move _ _ _ _ (congrArg (fun b => AV.v (Value.bool b)) hg17_3) rfl),
                        st_run 3 125 false rfl rfl rfl (List.Mem.head _) (op_move _ _ _ _ rfl rfl),
                        st_run 3 125 false rfl rfl rfl (List.Mem.head _) (op_move _ _ _ _ rfl rfl),
                        st_run 3 125 false rfl rfl rfl (List.Mem.head _) (op_bin _ _ _ _ _ rfl rfl rfl),
                        st_plain rfl (op_pick _ _ false _ rfl rfl),
                        st_plain rfl (op_move _ _ _ _ (congrArg (fun b => AV.v (Value.bool b)) hg17_8) rfl),
                        st_run 8 130 false rfl rfl rfl (List.Mem.head _) (op_move _ _ _ _ rfl rfl),
                        st_run 8 130 false rfl rfl rfl (List.Mem.head _) (op_move _ _ _ _ rfl rfl),
                        st_run 8 130 false rfl rfl rfl (List.Mem.head _) (op_bin _ _ _ _ _ rfl rfl rfl),
                        st_plain rfl (op_pick _ _ false _ rfl rfl),
                        st_plain rfl (op_move _ _ _ _ (congrArg (fun b => AV.v (Value.bool b)) hg17_13) rfl),
                        st_skip 13 135 _ false rfl rfl rfl rfl (List.Mem.head _),
                        st_skip 13 135 _ false rfl rfl rfl rfl (List.Mem.head _),
                        st_skip 13 135 _ false rfl rfl rfl rfl (List.Mem.head _),
                        st_plain rfl (op_pick _ _ true _ rfl rfl),
                        st_plain rfl (op_move _ _ _ _ rfl rfl),
                        st_skip 18 140 _ false rfl rfl rfl rfl (List.Mem.head _),
                        st_skip 18 140 _ false rfl rfl rfl rfl (List.Mem.head _),
                        st_skip 18 140 _ false rfl rfl rfl rfl (List.Mem.head _),
                        st_plain rfl (op_pick _ _ true _ rfl rfl),
                        trivial⟩ ?_
                    exact hl33 _ (Option.some.inj h).symm
                  · refine cond_some h (fun hg17_18 h => ?_) (fun hg17_18 h => ?_)
                    · refine ht_seqR hn (El := (_ :: _ :: _ :: _ :: _ :: _ :: _ :: _ :: _ :: _ :: _ :: _ :: _ :: _ :: _ :: _ :: (122, .v (.int .i64 v27.2.2)) :: (123, .v (.int .i64 v28.2.2)) :: (124, .v (.bool (v27.2.2 != v28.2.2))) :: (125, .v (.bool false)) :: (126, .v (.int .i64 v27.1)) :: (127, .v (.int .i64 v28.1)) :: (128, .v (.bool (v27.1 != v28.1))) :: (129, .v (.bool (v27.1 != v28.1))) :: (130, .v (.bool false)) :: (131, .v (.int .i64 v27.2.1)) :: (132, .v (.int .i64 v28.2.1)) :: (133, .v (.bool (v27.2.1 != v28.2.1))) :: (134, .v (.bool (v27.2.1 != v28.2.1))) :: (135, .v (.bool false)) :: (136, .v (.int .i64 v29.2)) :: (137, .v (.int .i64 v30.2)) :: (138, .v (.bool (v29.2 != v30.2))) :: (139, .v (.bool (v29.2 != v30.2))) :: (140, .v (.bool true)) :: (141, .v undef) :: (142, .v undef) :: (143, .v undef) :: (144, .v (.bool true)) :: [])) (init := [0, 1, 2, 3, 4, 5, 6, 7, 8, 9, 10, 11, 12, 13, 14, 15]) (fin := [0, 1, 2, 3, 4, 5, 38]) (sps := (⟨[8], [], [16], [(.slot 122)]⟩ :: ⟨[11], [], [17], [(.slot 123)]⟩ :: ⟨[16, 17], [], [18], [(.slot 124)]⟩ :: ⟨[18], [], [19], [(.slot 125)]⟩ :: ⟨[19, 6], [], [20], [(.slot 126)]⟩ :: ⟨[19, 9], [], [21], [(.slot 127)]⟩ :: ⟨[19, 20, 21], [], [22], [(.slot 128)]⟩ :: ⟨[19, 22], [], [23], [(.slot 129)]⟩ :: ⟨[23], [], [24], [(.slot 130)]⟩ :: ⟨[24, 7], [], [25], [(.slot 131)]⟩ :: ⟨[24, 10], [], [26], [(.slot 132)]⟩ :: ⟨[24, 25, 26], [], [27], [(.slot 133)]⟩ :: ⟨[24, 27], [], [28], [(.slot 134)]⟩ :: ⟨[28], [], [29], [(.slot 135)]⟩ :: ⟨[29, 13], [], [30], [(.slot 136)]⟩ :: ⟨[29, 15], [], [31], [(.slot 137)]⟩ :: ⟨[29, 30, 31], [], [32], [(.slot 138)]⟩ :: ⟨[29, 32], [], [33], [(.slot 139)]⟩ :: ⟨[33], [], [34], [(.slot 140)]⟩ :: ⟨[34], [], [35], [(.slot 141)]⟩ :: ⟨[34], [], [36], [(.slot 142)]⟩ :: ⟨[34], [], [37], [(.slot 143)]⟩ :: ⟨[34], [], [38], [(.slot 144)]⟩ :: [])) (es' := [(_, _), (_, _), (_, _), (_, _), (_, _), (_, _), (144, .v (.bool true))]) (by kernel_rfl) rfl rfl
                        ⟨st_plain rfl (op_move _ _ _ _ rfl rfl),
                          st_plain rfl (op_move _ _ _ _ rfl rfl),
                          st_plain rfl (op_bin _ _ _ _ _ rfl rfl rfl),
                          st_plain rfl (op_move _ _ _ _ (congrArg (fun b => AV.v (Value.bool b)) hg17_3) rfl),
                          st_run 3 125 false rfl rfl rfl (List.Mem.head _) (op_move _ _ _ _ rfl rfl),
                          st_run 3 125 false rfl rfl rfl (List.Mem.head _) (op_move _ _ _ _ rfl rfl),
                          st_run 3 125 false rfl rfl rfl (List.Mem.head _) (op_bin _ _ _ _ _ rfl rfl rfl),
                          st_plain rfl (op_pick _ _ false _ rfl rfl),
                          st_plain rfl (op_move _ _ _ _ (congrArg (fun b => AV.v (Value.bool b)) hg17_8) rfl),
                          st_run 8 130 false rfl rfl rfl (List.Mem.head _) (op_move _ _ _ _ rfl rfl),
                          st_run 8 130 false rfl rfl rfl (List.Mem.head _) (op_move _ _ _ _ rfl rfl),
                          st_run 8 130 false rfl rfl rfl (List.Mem.head _) (op_bin _ _ _ _ _ rfl rfl rfl),
                          st_plain rfl (op_pick _ _ false _ rfl rfl),
                          st_plain rfl (op_move _ _ _ _ (congrArg (fun b => AV.v (Value.bool b)) hg17_13) rfl),
                          st_run 13 135 false rfl rfl rfl (List.Mem.head _) (op_move _ _ _ _ rfl rfl),
                          st_run 13 135 false rfl rfl rfl (List.Mem.head _) (op_move _ _ _ _ rfl rfl),
                          st_run 13 135 false rfl rfl rfl (List.Mem.head _) (op_bin _ _ _ _ _ rfl rfl rfl),
                          st_plain rfl (op_pick _ _ false _ rfl rfl),
                          st_plain rfl (op_move _ _ _ _ (congrArg (fun b => AV.v (Value.bool b)) hg17_18) rfl),
                          st_skip 18 140 _ false rfl rfl rfl rfl (List.Mem.head _),
                          st_skip 18 140 _ false rfl rfl rfl rfl (List.Mem.head _),
                          st_skip 18 140 _ false rfl rfl rfl rfl (List.Mem.head _),
                          st_plain rfl (op_pick _ _ true _ rfl rfl),
                          trivial⟩ ?_
                      exact hl33 _ (Option.some.inj h).symm
                    · refine ht_seqR hn (El := (_ :: _ :: _ :: _ :: _ :: _ :: _ :: _ :: _ :: _ :: _ :: _ :: _ :: _ :: _ :: _ :: (122, .v (.int .i64 v27.2.2)) :: (123, .v (.int .i64 v28.2.2)) :: (124, .v (.bool (v27.2.2 != v28.2.2))) :: (125, .v (.bool false)) :: (126, .v (.int .i64 v27.1)) :: (127, .v (.int .i64 v28.1)) :: (128, .v (.bool (v27.1 != v28.1))) :: (129, .v (.bool (v27.1 != v28.1))) :: (130, .v (.bool false)) :: (131, .v (.int .i64 v27.2.1)) :: (132, .v (.int .i64 v28.2.1)) :: (133, .v (.bool (v27.2.1 != v28.2.1))) :: (134, .v (.bool (v27.2.1 != v28.2.1))) :: (135, .v (.bool false)) :: (136, .v (.int .i64 v29.2)) :: (137, .v (.int .i64 v30.2)) :: (138, .v (.bool (v29.2 != v30.2))) :: (139, .v (.bool (v29.2 != v30.2))) :: (140, .v (.bool false)) :: (141, .v (.int .i64 v29.1)) :: (142, .v (.int .i64 v30.1)) :: (143, .v (.bool (v29.1 != v30.1))) :: (144, .v (.bool (v29.1 != v30.1))) :: [])) (init := [0, 1, 2, 3, 4, 5, 6, 7, 8, 9, 10, 11, 12, 13, 14, 15]) (fin := [0, 1, 2, 3, 4, 5, 38]) (sps := (⟨[8], [], [16], [(.slot 122)]⟩ :: ⟨[11], [], [17], [(.slot 123)]⟩ :: ⟨[16, 17], [], [18], [(.slot 124)]⟩ :: ⟨[18], [], [19], [(.slot 125)]⟩ :: ⟨[19, 6], [], [20], [(.slot 126)]⟩ :: ⟨[19, 9], [], [21], [(.slot 127)]⟩ :: ⟨[19, 20, 21], [], [22], [(.slot 128)]⟩ :: ⟨[19, 22], [], [23], [(.slot 129)]⟩ :: ⟨[23], [], [24], [(.slot 130)]⟩ :: ⟨[24, 7], [], [25], [(.slot 131)]⟩ :: ⟨[24, 10], [], [26], [(.slot 132)]⟩ :: ⟨[24, 25, 26], [], [27], [(.slot 133)]⟩ :: ⟨[24, 27], [], [28], [(.slot 134)]⟩ :: ⟨[28], [], [29], [(.slot 135)]⟩ :: ⟨[29, 13], [], [30], [(.slot 136)]⟩ :: ⟨[29, 15], [], [31], [(.slot 137)]⟩ :: ⟨[29, 30, 31], [], [32], [(.slot 138)]⟩ :: ⟨[29, 32], [], [33], [(.slot 139)]⟩ :: ⟨[33], [], [34], [(.slot 140)]⟩ :: ⟨[34, 12], [], [35], [(.slot 141)]⟩ :: ⟨[34, 14], [], [36], [(.slot 142)]⟩ :: ⟨[34, 35, 36], [], [37], [(.slot 143)]⟩ :: ⟨[34, 37], [], [38], [(.slot 144)]⟩ :: [])) (es' := [(_, _), (_, _), (_, _), (_, _), (_, _), (_, _), (144, .v (.bool (v29.1 != v30.1)))]) (by kernel_rfl) rfl rfl
                        ⟨st_plain rfl (op_move _ _ _ _ rfl rfl),
                          st_plain rfl (op_move _ _ _ _ rfl rfl),
                          st_plain rfl (op_bin _ _ _ _ _ rfl rfl rfl),
                          st_plain rfl (op_move _ _ _ _ (congrArg (fun b => AV.v (Value.bool b)) hg17_3) rfl),
                          st_run 3 125 false rfl rfl rfl (List.Mem.head _) (op_move _ _ _ _ rfl rfl),
                          st_run 3 125 false rfl rfl rfl (List.Mem.head _) (op_move _ _ _ _ rfl rfl),
                          st_run 3 125 false rfl rfl rfl (List.Mem.head _) (op_bin _ _ _ _ _ rfl rfl rfl),
                          st_plain rfl (op_pick _ _ false _ rfl rfl),
                          st_plain rfl (op_move _ _ _ _ (congrArg (fun b => AV.v (Value.bool b)) hg17_8) rfl),
                          st_run 8 130 false rfl rfl rfl (List.Mem.head _) (op_move _ _ _ _ rfl rfl),
                          st_run 8 130 false rfl rfl rfl (List.Mem.head _) (op_move _ _ _ _ rfl rfl),
                          st_run 8 130 false rfl rfl rfl (List.Mem.head _) (op_bin _ _ _ _ _ rfl rfl rfl),
                          st_plain rfl (op_pick _ _ false _ rfl rfl),
                          st_plain rfl (op_move _ _ _ _ (congrArg (fun b => AV.v (Value.bool b)) hg17_13) rfl),
                          st_run 13 135 false rfl rfl rfl (List.Mem.head _) (op_move _ _ _ _ rfl rfl),
                          st_run 13 135 false rfl rfl rfl (List.Mem.head _) (op_move _ _ _ _ rfl rfl),
                          st_run 13 135 false rfl rfl rfl (List.Mem.head _) (op_bin _ _ _ _ _ rfl rfl rfl),
                          st_plain rfl (op_pick _ _ false _ rfl rfl),
                          st_plain rfl (op_move _ _ _ _ (congrArg (fun b => AV.v (Value.bool b)) hg17_18) rfl),
                          st_run 18 140 false rfl rfl rfl (List.Mem.head _) (op_move _ _ _ _ rfl rfl),
                          st_run 18 140 false rfl rfl rfl (List.Mem.head _) (op_move _ _ _ _ rfl rfl),
                          st_run 18 140 false rfl rfl rfl (List.Mem.head _) (op_bin _ _ _ _ _ rfl rfl rfl),
                          st_plain rfl (op_pick _ _ false _ rfl rfl),
                          trivial⟩ ?_
                      exact hl33 _ (Option.some.inj h).symm
        · intro u23 h hl24 hr25
          obtain ⟨v19, hv19, h⟩ := bind_some h
          refine cond_some h (fun hg11_4 h => ?_) (fun hg11_4 h => ?_)
          · refine ht_seqR hn (El := (_ :: _ :: _ :: _ :: _ :: _ :: _ :: _ :: _ :: _ :: _ :: _ :: _ :: _ :: _ :: _ :: (68, .agg [.same (.cell 11 0), .v (.int .i64 v6.N)]) :: (69, .v (.int .i64 v19)) :: (70, .v (.int .i64 s10)) :: (71, .v (.bool (v19 != s10))) :: (72, .v (.bool true)) :: (73, .v undef) :: (74, .v undef) :: (75, .v undef) :: (76, .v (.bool true)) :: (77, .v (.bool true)) :: (78, .v undef) :: (79, .v undef) :: (80, .v undef) :: (81, .v undef) :: (82, .v (.bool true)) :: (83, .v (.bool true)) :: (84, .v undef) :: (85, .v undef) :: (86, .v undef) :: (87, .v (.bool true)) :: (88, .v (.bool true)) :: (89, .v undef) :: (90, .v undef) :: (91, .v undef) :: (92, .v undef) :: (93, .v (.bool true)) :: [])) (init := [0, 1, 2, 3, 4, 5, 6, 7, 8, 9, 10, 11, 12, 13, 14, 15]) (fin := [0, 1, 2, 3, 4, 5, 6, 8, 12, 41]) (sps := (⟨[5], [], [16], [(.slot 68)]⟩ :: ⟨[16, 5], [], [17], [(.slot 69)]⟩ :: ⟨[7], [], [18], [(.slot 70)]⟩ :: ⟨[17, 18], [], [19], [(.slot 71)]⟩ :: ⟨[19], [], [20], [(.slot 72)]⟩ :: ⟨[20], [], [21], [(.slot 73)]⟩ :: ⟨[20], [], [22], [(.slot 74)]⟩ :: ⟨[20], [], [23], [(.slot 75)]⟩ :: ⟨[20], [], [24], [(.slot 76)]⟩ :: ⟨[24], [], [25], [(.slot 77)]⟩ :: ⟨[25], [], [26], [(.slot 78)]⟩ :: ⟨[25], [], [27], [(.slot 79)]⟩ :: ⟨[25], [], [28], [(.slot 80)]⟩ :: ⟨[25], [], [29], [(.slot 81)]⟩ :: ⟨[25], [], [30], [(.slot 82)]⟩ :: ⟨[30], [], [31], [(.slot 83)]⟩ :: ⟨[31], [], [32], [(.slot 84)]⟩ :: ⟨[31], [], [33], [(.slot 85)]⟩ :: ⟨[31], [], [34], [(.slot 86)]⟩ :: ⟨[31], [], [35], [(.slot 87)]⟩ :: ⟨[35], [], [36], [(.slot 88)]⟩ :: ⟨[36], [], [37], [(.slot 89)]⟩ :: ⟨[36], [], [38], [(.slot 90)]⟩ :: ⟨[36], [], [39], [(.slot 91)]⟩ :: ⟨[36], [], [40], [(.slot 92)]⟩ :: ⟨[36], [], [41], [(.slot 93)]⟩ :: [])) (es' := [(_, _), (_, _), (_, _), (_, _), (_, _), (_, _), (_, _), (_, _), (_, _), (93, .v (.bool true))]) (by kernel_rfl) rfl rfl
              ⟨st_plain rfl (op_loadA _ _ _ _ _ _ _ Try.underlying24 rfl sz24 rfl rfl (Nat.le_of_ble_eq_true rfl) rfl rfl),
                st_plain rfl (op_call _ _ 16 _ _ rfl Try.call16 rfl (ok_bits_Check v6 _ hv19) rfl rfl),
                st_plain rfl (op_move _ _ _ _ rfl rfl),
                st_plain rfl (op_bin _ _ _ _ _ rfl rfl rfl),
                st_plain rfl (op_move _ _ _ _ (congrArg (fun b => AV.v (Value.bool b)) hg11_4) rfl),
                st_skip 4 72 _ false rfl rfl rfl rfl (List.Mem.head _),
                st_skip 4 72 _ false rfl rfl rfl rfl (List.Mem.head _),
                st_skip 4 72 _ false rfl rfl rfl rfl (List.Mem.head _),
                st_plain rfl (op_pick _ _ true _ rfl rfl),
                st_plain rfl (op_move _ _ _ _ rfl rfl),
                st_skip 9 77 _ false rfl rfl rfl rfl (List.Mem.head _),
                st_skip 9 77 _ false rfl rfl rfl rfl (List.Mem.head _),
                st_skip 9 77 _ false rfl rfl rfl rfl (List.Mem.head _),
                st_skip 9 77 _ false rfl rfl rfl rfl (List.Mem.head _),
                st_plain rfl (op_pick _ _ true _ rfl rfl),
                st_plain rfl (op_move _ _ _ _ rfl rfl),
                st_skip 15 83 _ false rfl rfl rfl rfl (List.Mem.head _),
                st_skip 15 83 _ false rfl rfl rfl rfl (List.Mem.head _),
                st_skip 15 83 _ false rfl rfl rfl rfl (List.Mem.head _),
                st_plain rfl (op_pick _ _ true _ rfl rfl),
                st_plain rfl (op_move _ _ _ _ rfl rfl),
                st_skip 20 88 _ false rfl rfl rfl rfl (List.Mem.head _),
                st_skip 20 88 _ false rfl rfl rfl rfl (List.Mem.head _),
                st_skip 20 88 _ false rfl rfl rfl rfl (List.Mem.head _),
                st_skip 20 88 _ false rfl rfl rfl rfl (List.Mem.head _),
                st_plain rfl (op_pick _ _ true _ rfl rfl),
                trivial⟩ ?_
            exact hl24 _ (Option.some.inj h).symm
          · refine cond_some h (fun hg11_9 h => ?_) (fun hg11_9 h => ?_)
            · refine ht_seqR hn (El := (_ :: _ :: _ :: _ :: _ :: _ :: _ :: _ :: _ :: _ :: _ :: _ :: _ :: _ :: _ :: _ :: (68, .agg [.same (.cell 11 0), .v (.int .i64 v6.N)]) :: (69, .v (.int .i64 v19)) :: (70, .v (.int .i64 s10)) :: (71, .v (.bool (v19 != s10))) :: (72, .v (.bool false)) :: (73, .v (.int .i64 v15.2)) :: (74, .v (.int .i64 v16.2)) :: (75, .v (.bool (v15.2 != v16.2))) :: (76, .v (.bool (v15.2 != v16.2))) :: (77, .v (.bool true)) :: (78, .v undef) :: (79, .v undef) :: (80, .v undef) :: (81, .v undef) :: (82, .v (.bool true)) :: (83, .v (.bool true)) :: (84, .v undef) :: (85, .v undef) :: (86, .v undef) :: (87, .v (.bool true)) :: (88, .v (.bool true)) :: (89, .v undef) :: (90, .v undef) :: (91, .v undef) :: (92, .v undef) :: (93, .v (.bool true)) :: [])) (init := [0, 1, 2, 3, 4, 5, 6, 7, 8, 9, 10, 11, 12, 13, 14, 15]) (fin := [0, 1, 2, 3, 4, 5, 6, 8, 12, 41]) (sps := (⟨[5], [], [16], [(.slot 68)]⟩ :: ⟨[16, 5], [], [17], [(.slot 69)]⟩ :: ⟨[7], [], [18], [(.slot 70)]⟩ :: ⟨[17, 18], [], [19], [(.slot 71)]⟩ :: ⟨[19], [], [20], [(.slot 72)]⟩ :: ⟨[20, 9], [], [21], [(.slot 73)]⟩ :: ⟨[20, 11], [], [22], [(.slot 74)]⟩ :: ⟨[20, 21, 22], [], [23], [(.slot 75)]⟩ :: ⟨[20, 23], [], [24], [(.slot 76)]⟩ :: ⟨[24], [], [25], [(.slot 77)]⟩ :: ⟨[25], [], [26], [(.slot 78)]⟩ :: ⟨[25], [], [27], [(.slot 79)]⟩ :: ⟨[25], [], [28], [(.slot 80)]⟩ :: ⟨[25], [], [29], [(.slot 81)]⟩ :: ⟨[25], [], [30], [(.slot 82)]⟩ :: ⟨[30], [], [31], [(.slot 83)]⟩ :: ⟨[31], [], [32], [(.slot 84)]⟩ :: ⟨[31], [], [33], [(.slot 85)]⟩ :: ⟨[31], [], [34], [(.slot 86)]⟩ :: ⟨[31], [], [35], [(.slot 87)]⟩ :: ⟨[35], [], [36], [(.slot 88)]⟩ :: ⟨[36], [], [37], [(.slot 89)]⟩ :: ⟨[36], [], [38], [(.slot 90)]⟩ :: ⟨[36], [], [39], [(.slot 91)]⟩ :: ⟨[36], [], [40], [(.slot 92)]⟩ :: ⟨[36], [], [41], [(.slot 93)]⟩ :: [])) (es' := [(_, _), (_, _), (_, _), (_, _), (_, _), (_, _), (_, _), (_, _), (_, _), (93, .v (.bool true))]) (by kernel_rfl) rfl rfl
                ⟨st_plain rfl (op_loadA _ _ _ _ _ _ _ Try.underlying24 rfl sz24 rfl rfl (Nat.le_of_ble_eq_true rfl) rfl rfl),
                  st_plain rfl (op_call _ _ 16 _ _ rfl Try.call16 rfl (ok_bits_Check v6 _ hv19) rfl rfl),
                  st_plain rfl (op_move _ _ _ _ rfl rfl),
                  st_plain rfl (op_bin _ _ _ _ _ rfl rfl rfl),
                  st_plain rfl (op_move _ _ _ _ (congrArg (fun b => AV.v (Value.bool b)) hg11_4) rfl),
                  st_run 4 72 false rfl rfl rfl (List.Mem.head _) (op_move _ _ _ _ rfl rfl),
                  st_run 4 72 false rfl rfl rfl (List.Mem.head _) (op_move _ _ _ _ rfl rfl),
                  st_run 4 72 false rfl rfl rfl (List.Mem.head _) (op_bin _ _ _ _ _ rfl rfl rfl),
                  st_plain rfl (op_pick _ _ false _ rfl rfl),
                  st_plain rfl (op_move _ _ _ _ (congrArg (fun b => AV.v (Value.bool b)) hg11_9) rfl),
                  st_skip 9 77 _ false rfl rfl rfl rfl (List.Mem.head _),
                  st_skip 9 77 _ false rfl rfl rfl rfl (List.Mem.head _),
                  st_skip 9 77 _ false rfl rfl rfl rfl (List.Mem.head _),
                  st_skip 9 77 _ false rfl rfl rfl rfl (List.Mem.head _),
                  st_plain rfl (op_pick _ _ true _ rfl rfl),
                  st_plain rfl (op_move _ _ _ _ rfl rfl),
                  st_skip 15 83 _ false rfl rfl rfl rfl (List.Mem.head _),
                  st_skip 15 83 _ false rfl rfl rfl rfl (List.Mem.head _),
                  st_skip 15 83 _ false rfl rfl rfl rfl (List.Mem.head _),
                  st_plain rfl (op_pick _ _ true _ rfl rfl),
                  st_plain rfl (op_move _ _ _ _ rfl rfl),
                  st_skip 20 88 _ false rfl rfl rfl rfl (List.Mem.head _),
                  st_skip 20 88 _ false rfl rfl rfl rfl (List.Mem.head _),
                  st_skip 20 88 _ false rfl rfl rfl rfl (List.Mem.head _),
                  st_skip 20 88 _ false rfl rfl rfl rfl (List.Mem.head _),
                  st_plain rfl (op_pick _ _ true _ rfl rfl),
                  trivial⟩ ?_
              exact hl24 _ (Option.some.inj h).symm
            · obtain ⟨v20, hv20, h⟩ := bind_some h
              refine cond_some h (fun hg11_15 h => ?_) (fun hg11_15 h => ?_)
              · refine ht_seqR hn (El := (_ :: _ :: _ :: _ :: _ :: _ :: _ :: _ :: _ :: _ :: _ :: _ :: _ :: _ :: _ :: _ :: (68, .agg [.same (.cell 11 0), .v (.int .i64 v6.N)]) :: (69, .v (.int .i64 v19)) :: (70, .v (.int .i64 s10)) :: (71, .v (.bool (v19 != s10))) :: (72, .v (.bool false)) :: (73, .v (.int .i64 v15.2)) :: (74, .v (.int .i64 v16.2)) :: (75, .v (.bool (v15.2 != v16.2))) :: (76, .v (.bool (v15.2 != v16.2))) :: (77, .v (.bool false)) :: (78, .agg [.same (.cell 14 0), .v (.int .i64 v15.1.N)]) :: (79, .agg [.fl (.own 5) 1 (List.map (Value.int .u8) v16.1.B), .v (.int .i64 v16.1.N)]) :: (80, .v (.bool v20)) :: (81, .v (.bool (!v20))) :: (82, .v (.bool (!v20))) :: (83, .v (.bool true)) :: (84, .v undef) :: (85, .v undef) :: (86, .v undef) :: (87, .v (.bool true)) :: (88, .v (.bool true)) :: (89, .v undef) :: (90, .v undef) :: (91, .v undef) :: (92, .v undef) :: (93, .v (.bool true)) :: [])) (init := [0, 1, 2, 3, 4, 5, 6, 7, 8, 9, 10, 11, 12, 13, 14, 15]) (fin := [0, 1, 2, 3, 4, 5, 6, 8, 12, 41]) (sps := (⟨[5], [], [16], [(.slot 68)]⟩ :: ⟨[16, 5], [], [17], [(.slot 69)]⟩ :: ⟨[7], [], [18], [(.slot 70)]⟩ :: ⟨[17, 18], [], [19], [(.slot 71)]⟩ :: ⟨[19], [], [20], [(.slot 72)]⟩ :: ⟨[20, 9], [], [21], [(.slot 73)]⟩ :: ⟨[20, 11], [], [22], [(.slot 74)]⟩ :: ⟨[20, 21, 22], [], [23], [(.slot 75)]⟩ :: ⟨[20, 23], [], [24], [(.slot 76)]⟩ :: ⟨[24], [], [25], [(.slot 77)]⟩ :: ⟨[25, 8], [], [26], [(.slot 78)]⟩ :: ⟨[25], [10], [27], [(.slot 79)]⟩ :: ⟨[25, 26, 8, 27], [], [28], [(.slot 80)]⟩ :: ⟨[25, 28], [], [29], [(.slot 81)]⟩ :: ⟨[25, 29], [], [30], [(.slot 82)]⟩ :: ⟨[30], [], [31], [(.slot 83)]⟩ :: ⟨[31], [], [32], [(.slot 84)]⟩ :: ⟨[31], [], [33], [(.slot 85)]⟩ :: ⟨[31], [], [34], [(.slot 86)]⟩ :: ⟨[31], [], [35], [(.slot 87)]⟩ :: ⟨[35], [], [36], [(.slot 88)]⟩ :: ⟨[36], [], [37], [(.slot 89)]⟩ :: ⟨[36], [], [38], [(.slot 90)]⟩ :: ⟨[36], [], [39], [(.slot 91)]⟩ :: ⟨[36], [], [40], [(.slot 92)]⟩ :: ⟨[36], [], [41], [(.slot 93)]⟩ :: [])) (es' := [(_, _), (_, _), (_, _), (_, _), (_, _), (_, _), (_, _), (_, _), (_, _), (93, .v (.bool true))]) (by kernel_rfl) rfl rfl
                  ⟨st_plain rfl (op_loadA _ _ _ _ _ _ _ Try.underlying24 rfl sz24 rfl rfl (Nat.le_of_ble_eq_true rfl) rfl rfl),
                    st_plain rfl (op_call _ _ 16 _ _ rfl Try.call16 rfl (ok_bits_Check v6 _ hv19) rfl rfl),
                    st_plain rfl (op_move _ _ _ _ rfl rfl),
                    st_plain rfl (op_bin _ _ _ _ _ rfl rfl rfl),
                    st_plain rfl (op_move _ _ _ _ (congrArg (fun b => AV.v (Value.bool b)) hg11_4) rfl),
                    st_run 4 72 false rfl rfl rfl (List.Mem.head _) (op_move _ _ _ _ rfl rfl),
                    st_run 4 72 false rfl rfl rfl (List.Mem.head _) (op_move _ _ _ _ rfl rfl),
                    st_run 4 72 false rfl rfl rfl (List.Mem.head _) (op_bin _ _ _ _ _ rfl rfl rfl),
                    st_plain rfl (op_pick _ _ false _ rfl rfl),
                    st_plain rfl (op_move _ _ _ _ (congrArg (fun b => AV.v (Value.bool b)) hg11_9) rfl),
                    st_run 9 77 false rfl rfl rfl (List.Mem.head _) (op_loadA _ _ _ _ _ _ _ Try.underlying24 rfl sz24 rfl rfl (Nat.le_of_ble_eq_true rfl) rfl rfl),
                    st_run 9 77 false rfl rfl rfl (List.Mem.head _) (op_loadA_take _ _ _ _ Try.underlying24 rfl sz24 rfl rfl),
                    st_run 9 77 false rfl rfl rfl (List.Mem.head _) (op_call _ _ 17 _ _ rfl Try.call17 rfl (ok_wherrykeep_Bits v15.1 v16.1 _ hv20) rfl rfl),
                    st_run 9 77 false rfl rfl rfl (List.Mem.head _) (op_un _ _ _ _ rfl rfl),
                    st_plain rfl (op_pick _ _ false _ rfl rfl),
                    st_plain rfl (op_move _ _ _ _ (congrArg (fun b => AV.v (Value.bool b)) hg11_15) rfl),
                    st_skip 15 83 _ false rfl rfl rfl rfl (List.Mem.head _),
                    st_skip 15 83 _ false rfl rfl rfl rfl (List.Mem.head _),
                    st_skip 15 83 _ false rfl rfl rfl rfl (List.Mem.head _),
                    st_plain rfl (op_pick _ _ true _ rfl rfl),
                    st_plain rfl (op_move _ _ _ _ rfl rfl),
                    st_skip 20 88 _ false rfl rfl rfl rfl (List.Mem.head _),
                    st_skip 20 88 _ false rfl rfl rfl rfl (List.Mem.head _),
                    st_skip 20 88 _ false rfl rfl rfl rfl (List.Mem.head _),
                    st_skip 20 88 _ false rfl rfl rfl rfl (List.Mem.head _),
                    st_plain rfl (op_pick _ _ true _ rfl rfl),
                    trivial⟩ ?_
                exact hl24 _ (Option.some.inj h).symm
              · refine cond_some h (fun hg11_20 h => ?_) (fun hg11_20 h => ?_)
                · refine ht_seqR hn (El := (_ :: _ :: _ :: _ :: _ :: _ :: _ :: _ :: _ :: _ :: _ :: _ :: _ :: _ :: _ :: _ :: (68, .agg [.same (.cell 11 0), .v (.int .i64 v6.N)]) :: (69, .v (.int .i64 v19)) :: (70, .v (.int .i64 s10)) :: (71, .v (.bool (v19 != s10))) :: (72, .v (.bool false)) :: (73, .v (.int .i64 v15.2)) :: (74, .v (.int .i64 v16.2)) :: (75, .v (.bool (v15.2 != v16.2))) :: (76, .v (.bool (v15.2 != v16.2))) :: (77, .v (.bool false)) :: (78, .agg [.same (.cell 14 0), .v (.int .i64 v15.1.N)]) :: (79, .agg [.fl (.own 5) 1 (List.map (Value.int .u8) v16.1.B), .v (.int .i64 v16.1.N)]) :: (80, .v (.bool v20)) :: (81, .v (.bool (!v20))) :: (82, .v (.bool (!v20))) :: (83, .v (.bool false)) :: (84, .v (.int .i64 v17.2)) :: (85, .v (.int .i64 v18.2)) :: (86, .v (.bool (v17.2 != v18.2))) :: (87, .v (.bool (v17.2 != v18.2))) :: (88, .v (.bool true)) :: (89, .v undef) :: (90, .v undef) :: (91, .v undef) :: (92, .v undef) :: (93, .v (.bool true)) :: [])) (init := [0, 1, 2, 3, 4, 5, 6, 7, 8, 9, 10, 11, 12, 13, 14, 15]) (fin := [0, 1, 2, 3, 4, 5, 6, 8, 12, 41]) (sps := (⟨[5], [], [16], [(.slot 68)]⟩ :: ⟨[16, 5], [], [17], [(.slot 69)]⟩ :: ⟨[7], [], [18], [(.slot 70)]⟩ :: ⟨[17, 18], [], [19], [(.slot 71)]⟩ :: ⟨[19], [], [20], [(.slot 72)]⟩ :: ⟨[20, 9], [], [21], [(.slot 73)]⟩ :: ⟨[20, 11], [], [22], [(.slot 74)]⟩ :: ⟨[20, 21, 22], [], [23], [(.slot 75)]⟩ :: ⟨[20, 23], [], [24], [(.slot 76)]⟩ :: ⟨[24], [], [25], [(.slot 77)]⟩ :: ⟨[25, 8], [], [26], [(.slot 78)]⟩ :: ⟨[25], [10], [27], [(.slot 79)]⟩ :: ⟨[25, 26, 8, 27], [], [28], [(.slot 80)]⟩ :: ⟨[25, 28], [], [29], [(.slot 81)]⟩ :: ⟨[25, 29], [], [30], [(.slot 82)]⟩ :: ⟨[30], [], [31], [(.slot 83)]⟩ :: ⟨[31, 13], [], [32], [(.slot 84)]⟩ :: ⟨[31, 15], [], [33], [(.slot 85)]⟩ :: ⟨[31, 32, 33], [], [34], [(.slot 86)]⟩ :: ⟨[31, 34], [], [35], [(.slot 87)]⟩ :: ⟨[35], [], [36], [(.slot 88)]⟩ :: ⟨[36], [], [37], [(.slot 89)]⟩ :: ⟨[36], [], [38], [(.slot 90)]⟩ :: ⟨[36], [], [39], [(.slot 91)]⟩ :: ⟨[36], [], [40], [(.slot 92)]⟩ :: ⟨[36], [], [41], [(.slot 93)]⟩ :: [])) (es' := [(_, _), (_, _), (_, _), (_, _), (_, _), (_, _), (_, _), (_, _), (_, _), (93, .v (.bool true))]) (by kernel_rfl) rfl rfl
                    ⟨st_plain rfl (op_loadA _ _ _ _ _ _ _ Try.underlying24 rfl sz24 rfl rfl (Nat.le_of_ble_eq_true rfl) rfl rfl),
                      st_plain rfl (op_call _ _ 16 _ _ rfl Try.call16 rfl (ok_bits_Check v6 _ hv19) rfl rfl),
                      st_plain rfl (op_move _ _ _ _ rfl rfl),
                      st_plain rfl (op_bin _ _ _ _ _ rfl rfl rfl),
                      st_plain rfl (op_move _ _ _ _ (congrArg (fun b => AV.v (Value.bool b)) hg11_4) rfl),
                      st_run 4 72 false rfl rfl rfl (List.Mem.head _) (op_move _ _ _ _ rfl rfl),
                      st_run 4 72 false rfl rfl rfl (List.Mem.head _) (op_move _ _ _ _ rfl rfl),
                      st_run 4 72 false rfl rfl rfl (List.Mem.head _) (op_bin _ _ _ _ _ rfl rfl rfl),
                      st_plain rfl (op_pick _ _ false _ rfl rfl),
                      st_plain rfl (op_move _ _ _ _ (congrArg (fun b => AV.v (Value.bool b)) hg11_9) rfl),
                      st_run 9 77 false rfl rfl rfl (List.Mem.head _) (op_loadA _ _ _ _ _ _ _ Try.underlying24 rfl sz24 rfl rfl (Nat.le_of_ble_eq_true rfl) rfl rfl),
                      st_run 9 77 false rfl rfl rfl (List.Mem.head _) (op_loadA_take _ _ _ _ Try.underlying24 rfl sz24 rfl rfl),
                      st_run 9 77 false rfl rfl rfl (List.Mem.head _) (op_call _ _ 17 _ _ rfl Try.call17 rfl (ok_wherrykeep_Bits v15.1 v16.1 _ hv20) rfl rfl),
                      st_run 9 77 false rfl rfl rfl (List.Mem.head _) (op_un _ _ _ _ rfl rfl),
                      st_plain rfl (op_pick _ _ false _ rfl rfl),
                      st_plain rfl (op_move _ _ _ _ (congrArg (fun b => AV.v (Value.bool b)) hg11_15) rfl),
                      st_run 15 83 false rfl rfl rfl (List.Mem.head _) (op_move _ _ _ _ rfl rfl),
                      st_run 15 83 false rfl rfl rfl (List.Mem.head _) (op_move _ _ _ _ rfl rfl),
                      st_run 15 83 false rfl rfl rfl (List.Mem.head _) (op_bin _ _ _ _ _ rfl rfl rfl),
                      st_plain rfl (op_pick _ _ false _ rfl rfl),
                      st_plain rfl (op_move _ _ _ _ (congrArg (fun b => AV.v (Value.bool b)) hg11_20) rfl),
                      st_skip 20 88 _ false rfl rfl rfl rfl (List.Mem.head _),
                      st_skip 20 88 _ false rfl rfl rfl rfl (List.Mem.head _),
                      st_skip 20 88 _ false rfl rfl rfl rfl (List.Mem.head _),
                      st_skip 20 88 _ false rfl rfl rfl rfl (List.Mem.head _),
                      st_plain rfl (op_pick _ _ true _ rfl rfl),
                      trivial⟩ ?_
                  exact hl24 _ (Option.some.inj h).symm
                · obtain ⟨v21, hv21, h⟩ := bind_some h
                  refine ht_seqR hn (El := (_ :: _ :: _ :: _ :: _ :: _ :: _ :: _ :: _ :: _ :: _ :: _ :: _ :: _ :: _ :: _ :: (68, .agg [.same (.cell 11 0), .v (.int .i64 v6.N)]) :: (69, .v (.int .i64 v19)) :: (70, .v (.int .i64 s10)) :: (71, .v (.bool (v19 != s10))) :: (72, .v (.bool false)) :: (73, .v (.int .i64 v15.2)) :: (74, .v (.int .i64 v16.2)) :: (75, .v (.bool (v15.2 != v16.2))) :: (76, .v (.bool (v15.2 != v16.2))) :: (77, .v (.bool false)) :: (78, .agg [.same (.cell 14 0), .v (.int .i64 v15.1.N)]) :: (79, .agg [.fl (.own 5) 1 (List.map (Value.int .u8) v16.1.B), .v (.int .i64 v16.1.N)]) :: (80, .v (.bool v20)) :: (81, .v (.bool (!v20))) :: (82, .v (.bool (!v20))) :: (83, .v (.bool false)) :: (84, .v (.int .i64 v17.2)) :: (85, .v (.int .i64 v18.2)) :: (86, .v (.bool (v17.2 != v18.2))) :: (87, .v (.bool (v17.2 != v18.2))) :: (88, .v (.bool false)) :: (89, .agg [.same (.cell 18 0), .v (.int .i64 v17.1.N)]) :: (90, .agg [.fl (.own 5) 1 (List.map (Value.int .u8) v18.1.B), .v (.int .i64 v18.1.N)]) :: (91, .v (.bool v21)) :: (92, .v (.bool (!v21))) :: (93, .v (.bool (!v21))) :: [])) (init := [0, 1, 2, 3, 4, 5, 6, 7, 8, 9, 10, 11, 12, 13, 14, 15]) (fin := [0, 1, 2, 3, 4, 5, 6, 8, 12, 41]) (sps := (⟨[5], [], [16], [(.slot 68)]⟩ :: ⟨[16, 5], [], [17], [(.slot 69)]⟩ :: ⟨[7], [], [18], [(.slot 70)]⟩ :: ⟨[17, 18], [], [19], [(.slot 71)]⟩ :: ⟨[19], [], [20], [(.slot 72)]⟩ :: ⟨[20, 9], [], [21], [(.slot 73)]⟩ :: ⟨[20, 11], [], [22], [(.slot 74)]⟩ :: ⟨[20, 21, 22], [], [23], [(.slot 75)]⟩ :: ⟨[20, 23], [], [24], [(.slot 76)]⟩ :: ⟨[24], [], [25], [(.slot 77)]⟩ :: ⟨[25, 8], [], [26], [(.slot 78)]⟩ :: ⟨[25], [10], [27], [(.slot 79)]⟩ :: ⟨[25, 26, 8, 27], [], [28], [(.slot 80)]⟩ :: ⟨[25, 28], [], [29], [(.slot 81)]⟩ :: ⟨[25, 29], [], [30], [(.slot 82)]⟩ :: ⟨[30], [], [31], [(.slot 83)]⟩ :: ⟨[31, 13], [], [32], [(.slot 84)]⟩ :: ⟨[31, 15], [], [33], [(.slot 85)]⟩ :: ⟨[31, 32, 33], [], [34], [(.slot 86)]⟩ :: ⟨[31, 34], [], [35], [(.slot 87)]⟩ :: ⟨[35], [], [36], [(.slot 88)]⟩ :: ⟨[36, 12], [], [37], [(.slot 89)]⟩ :: ⟨[36], [14], [38], [(.slot 90)]⟩ :: ⟨[36, 37, 12, 38], [], [39], [(.slot 91)]⟩ :: ⟨[36, 39], [], [40], [(.slot 92)]⟩ :: ⟨[36, 40], [], [41], [(.slot 93)]⟩ :: [])) (es' := [(_, _), (_, _), (_, _), (_, _), (_, _), (_, _), (_, _), (_, _), (_, _), (93, .v (.bool (!v21)))]) (by kernel_rfl) rfl rfl
                    ⟨st_plain rfl (op_loadA _ _ _ _ _ _ _ Try.underlying24 rfl sz24 rfl rfl (Nat.le_of_ble_eq_true rfl) rfl rfl),
                      st_plain rfl (op_call _ _ 16 _ _ rfl Try.call16 rfl (ok_bits_Check v6 _ hv19) rfl rfl),
                      st_plain rfl (op_move _ _ _ _ rfl rfl),
                      st_plain rfl (op_bin _ _ _ _ _ rfl rfl rfl),
                      st_plain rfl (op_move _ _ _ _ (congrArg (fun b => AV.v (Value.bool b)) hg11_4) rfl),
                      st_run 4 72 false rfl rfl rfl (List.Mem.head _) (op_move _ _ _ _ rfl rfl),
                      st_run 4 72 false rfl rfl rfl (List.Mem.head _) (op_move _ _ _ _ rfl rfl),
                      st_run 4 72 false rfl rfl rfl (List.Mem.head _) (op_bin _ _ _ _ _ rfl rfl rfl),
                      st_plain rfl (op_pick _ _ false _ rfl rfl),
                      st_plain rfl (op_move _ _ _ _ (congrArg (fun b => AV.v (Value.bool b)) hg11_9) rfl),
                      st_run 9 77 false rfl rfl rfl (List.Mem.head _) (op_loadA _ _ _ _ _ _ _ Try.underlying24 rfl sz24 rfl rfl (Nat.le_of_ble_eq_true rfl) rfl rfl),
                      st_run 9 77 false rfl rfl rfl (List.Mem.head _) (op_loadA_take _ _ _ _ Try.underlying24 rfl sz24 rfl rfl),
                      st_run 9 77 false rfl rfl rfl (List.Mem.head _) (op_call _ _ 17 _ _ rfl Try.call17 rfl (ok_wherrykeep_Bits v15.1 v16.1 _ hv20) rfl rfl),
                      st_run 9 77 false rfl rfl rfl (List.Mem.head _) (op_un _ _ _ _ rfl rfl),
                      st_plain rfl (op_pick _ _ false _ rfl rfl),
                      st_plain rfl (op_move _ _ _ _ (congrArg (fun b => AV.v (Value.bool b)) hg11_15) rfl),
                      st_run 15 83 false rfl rfl rfl (List.Mem.head _) (op_move _ _ _ _ rfl rfl),
                      st_run 15 83 false rfl rfl rfl (List.Mem.head _) (op_move _ _ _ _ rfl rfl),
                      st_run 15 83 false rfl rfl rfl (List.Mem.head _) (op_bin _ _ _ _ _ rfl rfl rfl),
                      st_plain rfl (op_pick _ _ false _ rfl rfl),
                      st_plain rfl (op_move _ _ _ _ (congrArg (fun b => AV.v (Value.bool b)) hg11_20) rfl),
                      st_run 20 88 false rfl rfl rfl (List.Mem.head _) (op_loadA _ _ _ _ _ _ _ Try.underlying24 rfl sz24 rfl rfl (Nat.le_of_ble_eq_true rfl) rfl rfl),
                      st_run 20 88 false rfl rfl rfl (List.Mem.head _) (op_loadA_take _ _ _ _ Try.underlying24 rfl sz24 rfl rfl),
                      st_run 20 88 false rfl rfl rfl (List.Mem.head _) (op_call _ _ 17 _ _ rfl Try.call17 rfl (ok_wherrykeep_Bits v17.1 v18.1 _ hv21) rfl rfl),
                      st_run 20 88 false rfl rfl rfl (List.Mem.head _) (op_un _ _ _ _ rfl rfl),
                      st_plain rfl (op_pick _ _ false _ rfl rfl),
                      trivial⟩ ?_
                  exact hl24 _ (Option.some.inj h).symm
      · intro u11 h hl12 hr13
        refine ht_seq ?_
        obtain ⟨v8, hv8, h⟩ := bind_some h
        refine ht_seqR hn (El := [_, _, _, _, _, _, _, _, (41, .agg [.fl .shr 1 (List.map (Value.int .u8) s.B), .v (.int .i64 s.N)]), (42, .v (.bool v8)), (43, .v (.bool (!v8)))]) (init := [0, 1, 2, 3, 4, 5, 6, 7]) (fin := [0, 1, 2, 3, 4, 5, 6, 7, 10]) (sps := [⟨[4], [], [8], [(.slot 41)]⟩, ⟨[8], [], [9], [(.slot 42)]⟩, ⟨[9], [], [10], [(.slot 43)]⟩]) (es' := [(_, _), (_, _), (_, _), (_, _), (_, _), (_, _), (_, _), (_, _), (43, .v (.bool (!v8)))]) (by kernel_rfl) rfl rfl
          ⟨st_plain rfl (op_loadA _ _ _ _ _ _ _ Try.underlying24 rfl sz24 rfl rfl (Nat.le_of_ble_eq_true rfl) rfl rfl),
            st_plain rfl (op_call _ _ 11 _ _ rfl Try.call11 rfl (ok_wherryref01_RightBits s _ hv8) rfl rfl),
            st_plain rfl (op_un _ _ _ _ rfl rfl),
            trivial⟩ ?_
        refine pt_then ?_
        refine ht_cond _ rfl (fun hb14 => ?_) (fun hb14 => ?_)
        · have h := cond_t hb14 h
          refine ht_seqR hn (El := [_, _, _, _, _, _, _, _, _, (13, .v (.int .i64 1))]) (init := [0, 1, 2, 3, 4, 5, 6, 7, 8]) (fin := [0, 1, 2, 3, 4, 5, 6, 9]) (sps := [⟨[], [7], [9], [(.slot 13)]⟩]) (es' := [(_, _), (_, _), (_, _), (_, _), (_, _), (_, _), (_, _), (13, .v (.int .i64 1))]) (by kernel_rfl) rfl rfl
            ⟨st_plain rfl (LOp.drop [_] (op_assign _ _ _ _ rfl rfl)),
              trivial⟩ ?_
          exact hl12 _ (Option.some.inj h).symm
        · have h := cond_f hb14 h
          refine ht_skip ?_
          refine pt_pick [0, 1, 2, 3, 4, 5, 6, 7] (by kernel_rfl) (es' := [(_, _), (_, _), (_, _), (_, _), (_, _), (_, _), (_, _), (_, _)]) rfl ?_
          exact hl12 _ (Option.some.inj h).symm
  · intro u2 h hl3 hr4
    refine cond_some h (fun hg1_4 h => ?_) (fun hg1_4 h => ?_)
    · refine ht_seqR hn (El := [_, _, _, _, _, (28, .ptr 5 0), (29, .fl .shr 1 (List.map (Value.int .u8) s.B)), (30, .v (.int .i64 (s.B.length : Int))), (31, .v (.bool ((decide (6000 < (s.B.length : Int)))))), (32, .v (.bool true)), (33, .v undef), (34, .v undef), (35, .v undef), (36, .v (.bool true))]) (init := [0, 1, 2, 3, 4]) (fin := [0, 1, 2, 3, 4, 13]) (sps := [⟨[4], [], [5], [(.slot 28)]⟩, ⟨[5, 4], [], [6], [(.slot 29)]⟩, ⟨[6], [], [7], [(.slot 30)]⟩, ⟨[7], [], [8], [(.slot 31)]⟩, ⟨[8], [], [9], [(.slot 32)]⟩, ⟨[9], [], [10], [(.slot 33)]⟩, ⟨[9], [], [11], [(.slot 34)]⟩, ⟨[9], [], [12], [(.slot 35)]⟩, ⟨[9], [], [13], [(.slot 36)]⟩]) (es' := [(_, _), (_, _), (_, _), (_, _), (_, _), (36, .v (.bool true))]) (by kernel_rfl) rfl rfl
        ⟨st_plain rfl (op_fieldAddr _ _ _ _ 5 0 _ Try.underlying24 rfl sz22 rfl rfl (by decide)),
          st_plain rfl (op_load _ _ _ _ _ _ Try.underlying22 rfl rfl rfl (Nat.le_of_ble_eq_true rfl) rfl rfl rfl),
          st_plain rfl (op_len_fl _ _ _ Try.underlying22 rfl (by decide) (map_len _)),
          st_plain rfl (op_bin _ _ _ _ _ rfl rfl rfl),
          st_plain rfl (op_move _ _ _ _ (congrArg (fun b => AV.v (Value.bool b)) hg1_4) rfl),
          st_skip 4 32 _ false rfl rfl rfl rfl (List.Mem.head _),
          st_skip 4 32 _ false rfl rfl rfl rfl (List.Mem.head _),
          st_skip 4 32 _ false rfl rfl rfl rfl (List.Mem.head _),
          st_plain rfl (op_pick _ _ true _ rfl rfl),
          trivial⟩ ?_
      exact hl3 _ (Option.some.inj h).symm
    · refine ht_seqR hn (El := [_, _, _, _, _, (28, .ptr 5 0), (29, .fl .shr 1 (List.map (Value.int .u8) s.B)), (30, .v (.int .i64 (s.B.length : Int))), (31, .v (.bool ((decide (6000 < (s.B.length : Int)))))), (32, .v (.bool false)), (33, .fl .shr 1 (List.map (Value.int .u8) b)), (34, .v (.int .i64 (b.length : Int))), (35, .v (.bool ((decide (600 < (b.length : Int)))))), (36, .v (.bool ((decide (600 < (b.length : Int))))))]) (init := [0, 1, 2, 3, 4]) (fin := [0, 1, 2, 3, 4, 13]) (sps := [⟨[4], [], [5], [(.slot 28)]⟩, ⟨[5, 4], [], [6], [(.slot 29)]⟩, ⟨[6], [], [7], [(.slot 30)]⟩, ⟨[7], [], [8], [(.slot 31)]⟩, ⟨[8], [], [9], [(.slot 32)]⟩, ⟨[9, 2], [], [10], [(.slot 33)]⟩, ⟨[9, 10], [], [11], [(.slot 34)]⟩, ⟨[9, 11], [], [12], [(.slot 35)]⟩, ⟨[9, 12], [], [13], [(.slot 36)]⟩]) (es' := [(_, _), (_, _), (_, _), (_, _), (_, _), (36, .v (.bool ((decide (600 < (b.length : Int))))))]) (by kernel_rfl) rfl rfl
        ⟨st_plain rfl (op_fieldAddr _ _ _ _ 5 0 _ Try.underlying24 rfl sz22 rfl rfl (by decide)),
          st_plain rfl (op_load _ _ _ _ _ _ Try.underlying22 rfl rfl rfl (Nat.le_of_ble_eq_true rfl) rfl rfl rfl),
          st_plain rfl (op_len_fl _ _ _ Try.underlying22 rfl (by decide) (map_len _)),
          st_plain rfl (op_bin _ _ _ _ _ rfl rfl rfl),
          st_plain rfl (op_move _ _ _ _ (congrArg (fun b => AV.v (Value.bool b)) hg1_4) rfl),
          st_run 4 32 false rfl rfl rfl (List.Mem.head _) (op_move _ _ _ _ rfl rfl),
          st_run 4 32 false rfl rfl rfl (List.Mem.head _) (op_len_fl _ _ _ Try.underlying22 rfl (by decide) (map_len _)),
          st_run 4 32 false rfl rfl rfl (List.Mem.head _) (op_bin _ _ _ _ _ rfl rfl rfl),
          st_plain rfl (op_pick _ _ false _ rfl rfl),
          trivial⟩ ?_
      exact hl3 _ (Option.some.inj h).symm

end Go.Proofs.Ytiopoaenpajlmaa
