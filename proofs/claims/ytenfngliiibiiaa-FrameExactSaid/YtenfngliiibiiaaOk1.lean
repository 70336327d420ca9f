/-
  The model's runs are what is told in Lean.
-/
import Derived.Test.YtenfngliiibiiaaProg
import Derived.KernelRfl
import Derived.Test.YtenfngliiibiiaaSh
set_option linter.unusedVariables false
set_option linter.unusedSimpArgs false
namespace Go.Proofs.Ytenfngliiibiiaa
open Go.Abs Go.Abs.Sh

theorem sz22 : (Try.prog.info? 22).map (·.size) = some 1 := by kernel_rfl
theorem sz24 : (Try.prog.info? 24).map (·.size) = some 5 := by kernel_rfl
theorem zr24 : (Try.prog.info? 24).bind (·.zero) = some (.agg #[.int .i64 0, .int .i64 0, .int .i64 0, .int .i64 0, .slice none 0 0]) := by kernel_rfl
theorem el22 : ElemT Try.prog 22 5 1 1 := ⟨⟨Try.t5, .int .u8 0, Try.underlying22, by kernel_rfl, by kernel_rfl, by kernel_rfl, by kernel_rfl, by decide, by kernel_rfl⟩⟩
theorem sz3 : (Try.prog.info? 3).map (·.size) = some 1 := by kernel_rfl
theorem sz5 : (Try.prog.info? 5).map (·.size) = some 1 := by kernel_rfl
theorem zr5 : (Try.prog.info? 5).bind (·.zero) = some (.int .u8 0) := by kernel_rfl
theorem za53 : ((Try.prog.info? 53).bind (·.zero)).map (·.cells.toList) = some (List.map (Value.int .u32) (List.replicate 16 (0 : Int))) := by kernel_rfl
theorem sz51 : (Try.prog.info? 51).map (·.size) = some 1 := by kernel_rfl
theorem sz53 : (Try.prog.info? 53).map (·.size) = some 16 := by kernel_rfl
theorem fs24 : ∀ fs, Try.prog.underlying 24 = some (.struct fs) → fs.toList.map (fun f => (Try.prog.info? f.type).map (·.size)) = ([1, 1, 1, 1, 1] : List Nat).map some := by
  intro fs h
  rw [Try.underlying24] at h
  cases h
  kernel_rfl

set_option maxHeartbeats 1000000 in
theorem ok_wherrykeep_Twin (l : (List Int)) (r : (List Int)) (h : Sh.wherrykeep_Twin l = some r) : FnOK Try.prog 11 [.fl .shr 1 (List.map (Value.int .u8) l)] (.fl (.own 5) 1 (List.map (Value.int .u8) r)) := by
  unfold Sh.wherrykeep_Twin at h
  refine fn_ok Try.func11 rfl (Nat.le_of_ble_eq_true rfl) rfl rfl fun g0 hn hio => ?_
  refine ht_seq ?_
  refine ht_seqR hn (El := [_, (2, .v (.slice none 0 0))]) (init := [0]) (fin := [0]) (sps := [⟨[], [], [1], [(.slot 2)]⟩]) (es' := [(_, _)]) (by kernel_rfl) rfl rfl
    ⟨st_plain rfl (op_assign _ _ _ _ rfl rfl),
      trivial⟩ ?_
  refine pt_then ?_
  refine ht_seq ?_
  refine ht_seqR hn (El := [_, (3, .v (.slice none 0 0))]) (init := [0]) (fin := [0, 1]) (sps := [⟨[], [], [1], [(.slot 3)]⟩]) (es' := [(_, _), (3, .v (.slice none 0 0))]) (by kernel_rfl) rfl rfl
    ⟨st_plain rfl (op_assign _ _ _ _ rfl rfl),
      trivial⟩ ?_
  refine pt_then ?_
  refine ht_seq ?_
  obtain ⟨v1, hv1, h⟩ := bind_some h
  refine ht_seqR hn (El := [_, _, (4, .v (.slice none 0 0)), (5, .fl .shr 1 (List.map (Value.int .u8) l)), (6, .fl (.own 5) 1 (List.map (Value.int .u8) v1)), (2, .fl (.own 5) 1 (List.map (Value.int .u8) v1))]) (init := [0, 1]) (fin := [5]) (sps := [⟨[1], [], [2], [(.slot 4)]⟩, ⟨[0], [], [3], [(.slot 5)]⟩, ⟨[2, 3], [], [4], [(.slot 6)]⟩, ⟨[], [4], [5], [(.slot 2)]⟩]) (es' := [(2, .fl (.own 5) 1 (List.map (Value.int .u8) v1))]) (by kernel_rfl) rfl rfl
    ⟨st_plain rfl (op_move _ _ _ _ rfl rfl),
      st_plain rfl (op_move _ _ _ _ rfl rfl),
      st_plain rfl (op_app_nil _ _ _ _ el22 rfl rfl (map_len _) hv1 (congrArg (List.map _) (app_nil_eq hv1))),
      st_plain rfl (op_assign_take _ _ _ _ rfl),
      trivial⟩ ?_
  refine pt_then ?_
  refine ht_ret ?_
  obtain rfl := Option.some.inj h
  exact pt_ret hio rfl (.tmp _ _ .nil) rfl rfl

set_option maxHeartbeats 1000000 in
theorem ok_wherrykeep_TwinFrame (f : T_Frame) (r : T_Frame) (h : Sh.wherrykeep_TwinFrame f = some r) : FnOK Try.prog 10 [.agg [.v (.int .i64 f.Kind), .v (.int .i64 f.Number), .v (.int .i64 f.Offset), .v (.int .i64 f.Seq), .fl .shr 1 (List.map (Value.int .u8) f.Data)]] (.agg [.v (.int .i64 r.Kind), .v (.int .i64 r.Number), .v (.int .i64 r.Offset), .v (.int .i64 r.Seq), .fl (.own 5) 1 (List.map (Value.int .u8) r.Data)]) := by
  unfold Sh.wherrykeep_TwinFrame at h
  refine fn_ok Try.func10 rfl (Nat.le_of_ble_eq_true rfl) rfl rfl fun g0 hn hio => ?_
  refine ht_seq ?_
  refine ht_seqR hn (El := [_, (1, .box 24 [.v (.int .i64 f.Kind), .v (.int .i64 f.Number), .v (.int .i64 f.Offset), .v (.int .i64 f.Seq), .fl .shr 1 (List.map (Value.int .u8) f.Data)]), (2, .box 24 [.v (.int .i64 0), .v (.int .i64 0), .v (.int .i64 0), .v (.int .i64 0), .v (.slice none 0 0)])]) (init := [0]) (fin := [1, 2]) (sps := [⟨[0], [], [1], [(.slot 1)]⟩, ⟨[], [], [2], [(.slot 2)]⟩]) (es' := [(1, .box 24 [.v (.int .i64 f.Kind), .v (.int .i64 f.Number), .v (.int .i64 f.Offset), .v (.int .i64 f.Seq), .fl .shr 1 (List.map (Value.int .u8) f.Data)]), (2, .box 24 [.v (.int .i64 0), .v (.int .i64 0), .v (.int .i64 0), .v (.int .i64 0), .v (.slice none 0 0)])]) (by kernel_rfl) rfl rfl
    ⟨st_plain rfl (op_box _ _ _ _ rfl rfl rfl),
      st_plain rfl (op_alloc _ _ zr24),
      trivial⟩ ?_
  refine pt_then ?_
  refine ht_seq ?_
  obtain ⟨v1, hv1, h⟩ := bind_some h
  refine ht_seqR hn (El := [_, _, (3, .ptr 1 4), (4, .fl .shr 1 (List.map (Value.int .u8) f.Data)), (5, .fl (.own 5) 1 (List.map (Value.int .u8) v1)), (6, .ptr 1 4), (1, .box 24 [.v (.int .i64 f.Kind), .v (.int .i64 f.Number), .v (.int .i64 f.Offset), .v (.int .i64 f.Seq), .fl (.own 5) 1 (List.map (Value.int .u8) v1)])]) (init := [0, 1]) (fin := [6, 1]) (sps := [⟨[0], [], [2], [(.slot 3)]⟩, ⟨[2, 0], [], [3], [(.slot 4)]⟩, ⟨[3], [], [4], [(.slot 5)]⟩, ⟨[0], [], [5], [(.slot 6)]⟩, ⟨[5], [4, 0], [6], [.cell 1 4]⟩]) (es' := [(1, .box 24 [.v (.int .i64 f.Kind), .v (.int .i64 f.Number), .v (.int .i64 f.Offset), .v (.int .i64 f.Seq), .fl (.own 5) 1 (List.map (Value.int .u8) v1)]), (_, _)]) (by kernel_rfl) rfl rfl
    ⟨st_plain rfl (op_fieldAddr _ _ _ _ 1 0 _ Try.underlying24 rfl sz22 rfl rfl (by decide)),
      st_plain rfl (op_load _ _ _ _ _ _ Try.underlying22 rfl rfl rfl (Nat.le_of_ble_eq_true rfl) rfl rfl rfl),
      st_plain rfl (op_call _ _ 11 _ _ rfl Try.call11 rfl (ok_wherrykeep_Twin f.Data _ hv1) rfl rfl),
      st_plain rfl (op_fieldAddr _ _ _ _ 1 0 _ Try.underlying24 rfl sz22 rfl rfl (by decide)),
      st_plain rfl (op_store_take _ _ _ _ _ _ _ _ sz22 rfl rfl rfl (Nat.le_of_ble_eq_true rfl) rfl rfl),
      trivial⟩ ?_
  refine pt_then ?_
  refine ht_seq ?_
  refine ht_seqR hn (El := [_, _, (7, .agg [.v (.int .i64 f.Kind), .v (.int .i64 f.Number), .v (.int .i64 f.Offset), .v (.int .i64 f.Seq), .fl (.own 5) 1 (List.map (Value.int .u8) v1)]), (2, .box 24 [.v (.int .i64 f.Kind), .v (.int .i64 f.Number), .v (.int .i64 f.Offset), .v (.int .i64 f.Seq), .fl (.own 5) 1 (List.map (Value.int .u8) v1)])]) (init := [0, 1]) (fin := [3]) (sps := [⟨[], [0], [2], [(.slot 7)]⟩, ⟨[], [2, 1], [3], [.cell 2 0, .cell 2 1, .cell 2 2, .cell 2 3, .cell 2 4]⟩]) (es' := [(2, .box 24 [.v (.int .i64 f.Kind), .v (.int .i64 f.Number), .v (.int .i64 f.Offset), .v (.int .i64 f.Seq), .fl (.own 5) 1 (List.map (Value.int .u8) v1)])]) (by kernel_rfl) rfl rfl
    ⟨st_plain rfl (op_loadA_take _ _ _ _ Try.underlying24 rfl sz24 rfl rfl),
      st_plain rfl (op_store_take _ _ _ _ _ _ _ _ sz24 rfl rfl rfl (Nat.le_of_ble_eq_true rfl) rfl rfl),
      trivial⟩ ?_
  refine pt_then ?_
  refine ht_ret ?_
  obtain rfl := Option.some.inj h
  exact pt_ret hio rfl (.cellA _ _ _ _ Try.underlying24 rfl sz24 .nil) rfl rfl

set_option maxHeartbeats 1000000 in
theorem ok_frame_Check (f : T_Frame) (r : Int) (h : Sh.frame_Check f = some r) : FnOK Try.prog 16 [.agg [.v (.int .i64 f.Kind), .v (.int .i64 f.Number), .v (.int .i64 f.Offset), .v (.int .i64 f.Seq), .fl .shr 1 (List.map (Value.int .u8) f.Data)]] (.v (.int .i64 r)) := by
  unfold Sh.frame_Check at h
  refine fn_ok Try.func16 rfl (Nat.le_of_ble_eq_true rfl) rfl rfl fun g0 hn hio => ?_
  refine ht_seq ?_
  refine ht_seqR hn (El := [_, (1, .box 24 [.v (.int .i64 f.Kind), .v (.int .i64 f.Number), .v (.int .i64 f.Offset), .v (.int .i64 f.Seq), .fl .shr 1 (List.map (Value.int .u8) f.Data)]), (2, .v (.int .i64 0))]) (init := [0]) (fin := [1]) (sps := [⟨[0], [], [1], [(.slot 1)]⟩, ⟨[], [], [2], [(.slot 2)]⟩]) (es' := [(1, .box 24 [.v (.int .i64 f.Kind), .v (.int .i64 f.Number), .v (.int .i64 f.Offset), .v (.int .i64 f.Seq), .fl .shr 1 (List.map (Value.int .u8) f.Data)])]) (by kernel_rfl) rfl rfl
    ⟨st_plain rfl (op_box _ _ _ _ rfl rfl rfl),
      st_plain rfl (op_assign _ _ _ _ rfl rfl),
      trivial⟩ ?_
  refine pt_then ?_
  refine ht_seq ?_
  refine ht_anyR (by kernel_rfl) hn (El := [_, (9, .ptr 1 2), (10, .v (.int .i64 f.Offset)), (11, .v (.bool (f.Offset == 0))), (12, .ptr 1 3), (13, .v (.int .i64 f.Seq)), (14, .v (.bool (f.Seq == 0))), (15, .ptr 1 4), (16, .fl .shr 1 (List.map (Value.int .u8) f.Data)), (17, .v (.int .i64 (f.Data.length : Int))), (18, .v (.bool (((f.Data.length : Int) == 0)))), (3, .v (.bool (f.Offset == 0))), (4, .v (.bool (f.Seq == 0))), (5, .v (.bool (((f.Data.length : Int) == 0))))]) (init := [0]) (fin := [0, 11, 12, 13]) (sps := [⟨[0], [], [1], [(.slot 9)]⟩, ⟨[1, 0], [], [2], [(.slot 10)]⟩, ⟨[2], [], [3], [(.slot 11)]⟩, ⟨[0], [], [4], [(.slot 12)]⟩, ⟨[4, 0], [], [5], [(.slot 13)]⟩, ⟨[5], [], [6], [(.slot 14)]⟩, ⟨[0], [], [7], [(.slot 15)]⟩, ⟨[7, 0], [], [8], [(.slot 16)]⟩, ⟨[8], [], [9], [(.slot 17)]⟩, ⟨[9], [], [10], [(.slot 18)]⟩, ⟨[3], [], [11], [(.slot 3)]⟩, ⟨[6], [], [12], [(.slot 4)]⟩, ⟨[10], [], [13], [(.slot 5)]⟩]) (es' := [(_, _), (3, .v (.bool (f.Offset == 0))), (4, .v (.bool (f.Seq == 0))), (5, .v (.bool (((f.Data.length : Int) == 0))))]) (by kernel_rfl) rfl rfl
    ⟨st_plain rfl (op_fieldAddr _ _ _ _ 1 0 _ Try.underlying24 rfl sz3 rfl rfl (by decide)),
      st_plain rfl (op_load _ _ _ _ _ _ Try.underlying3 rfl rfl rfl (Nat.le_of_ble_eq_true rfl) rfl rfl rfl),
      st_plain rfl (op_bin _ _ _ _ _ rfl rfl rfl),
      st_plain rfl (op_fieldAddr _ _ _ _ 1 0 _ Try.underlying24 rfl sz3 rfl rfl (by decide)),
      st_plain rfl (op_load _ _ _ _ _ _ Try.underlying3 rfl rfl rfl (Nat.le_of_ble_eq_true rfl) rfl rfl rfl),
      st_plain rfl (op_bin _ _ _ _ _ rfl rfl rfl),
      st_plain rfl (op_fieldAddr _ _ _ _ 1 0 _ Try.underlying24 rfl sz22 rfl rfl (by decide)),
      st_plain rfl (op_load _ _ _ _ _ _ Try.underlying22 rfl rfl rfl (Nat.le_of_ble_eq_true rfl) rfl rfl rfl),
      st_plain rfl (op_len_fl _ _ _ Try.underlying22 rfl (by decide) (map_len _)),
      st_plain rfl (op_bin _ _ _ _ _ rfl rfl rfl),
      st_plain rfl (op_assign _ _ _ _ rfl rfl),
      st_plain rfl (op_assign _ _ _ _ rfl rfl),
      st_plain rfl (op_assign _ _ _ _ rfl rfl),
      trivial⟩ ?_
  refine pt_then ?_
  refine ht_seq ?_
  refine ht_joinS h (fun (s1 : Bool) => [(1, .box 24 [.v (.int .i64 f.Kind), .v (.int .i64 f.Number), .v (.int .i64 f.Offset), .v (.int .i64 f.Seq), .fl .shr 1 (List.map (Value.int .u8) f.Data)]), (3, .v (.bool (f.Offset == 0))), (4, .v (.bool (f.Seq == 0))), (5, .v (.bool (((f.Data.length : Int) == 0)))), (6, .v (.bool s1))]) ?_ ?_
  · rintro s1 h
    refine pt_then ?_
    refine ht_seq ?_
    refine ht_joinS h (fun (s5 : Bool) => [(1, .box 24 [.v (.int .i64 f.Kind), .v (.int .i64 f.Number), .v (.int .i64 f.Offset), .v (.int .i64 f.Seq), .fl .shr 1 (List.map (Value.int .u8) f.Data)]), (3, .v (.bool (f.Offset == 0))), (4, .v (.bool (f.Seq == 0))), (5, .v (.bool (((f.Data.length : Int) == 0)))), (6, .v (.bool s1)), (7, .v (.bool s5))]) ?_ ?_
    · rintro s5 h
      refine pt_then ?_
      refine ht_seq ?_
      refine ht_seqR hn (El := [_, _, _, _, _, _, (8, .v (.bool false))]) (init := [0, 1, 2, 3, 4, 5]) (fin := [0, 1, 2, 3, 4, 5, 6]) (sps := [⟨[], [], [6], [(.slot 8)]⟩]) (es' := [(_, _), (_, _), (_, _), (_, _), (_, _), (_, _), (8, .v (.bool false))]) (by kernel_rfl) rfl rfl
        ⟨st_plain rfl (op_assign _ _ _ _ rfl rfl),
          trivial⟩ ?_
      refine pt_then ?_
      refine ht_seq ?_
      refine ht_joinS h (fun (s65 : Bool) => [(1, .box 24 [.v (.int .i64 f.Kind), .v (.int .i64 f.Number), .v (.int .i64 f.Offset), .v (.int .i64 f.Seq), .fl .shr 1 (List.map (Value.int .u8) f.Data)]), (8, .v (.bool s65))]) ?_ ?_
      · rintro s65 h
        refine pt_then ?_
        refine ht_seq ?_
        refine ht_seq ?_
        refine ht_joinS h (fun (s125 : Bool) => [(92, .v (.bool s125))]) ?_ ?_
        · rintro s125 h
          refine pt_then ?_
          refine ht_cond _ rfl (fun hb129 => ?_) (fun hb129 => ?_)
          · have h := cond_t hb129 h
            refine ht_seq ?_
            refine ht_seqR hn (El := [_, (2, .v (.int .i64 1))]) (init := [0]) (fin := [1]) (sps := [⟨[], [], [1], [(.slot 2)]⟩]) (es' := [(2, .v (.int .i64 1))]) (by kernel_rfl) rfl rfl
              ⟨st_plain rfl (op_assign _ _ _ _ rfl rfl),
                trivial⟩ ?_
            refine pt_then ?_
            refine ht_ret ?_
            refine pt_r_then ?_
            obtain rfl := Option.some.inj h
            exact pt_ret hio rfl (.tmp _ _ .nil) rfl rfl
          · have h := cond_f hb129 h
            refine ht_skip ?_
            refine pt_then ?_
            refine ht_seq ?_
            refine ht_seqR hn (El := [_, (2, .v (.int .i64 0))]) (init := [0]) (fin := [1]) (sps := [⟨[], [], [1], [(.slot 2)]⟩]) (es' := [(2, .v (.int .i64 0))]) (by kernel_rfl) rfl rfl
              ⟨st_plain rfl (op_assign _ _ _ _ rfl rfl),
                trivial⟩ ?_
            refine pt_then ?_
            refine ht_ret ?_
            obtain rfl := Option.some.inj h
            exact pt_ret hio rfl (.tmp _ _ .nil) rfl rfl
        · intro u126 h hl127 hr128
          refine cond_some h (fun hg15_2 h => ?_) (fun hg15_2 h => ?_)
          · refine ht_seqR hn (El := [_, _, (81, .v (.bool s65)), (82, .v (.bool (!s65))), (83, .v (.bool true)), (84, .v undef), (85, .v undef), (86, .v undef), (87, .v (.bool true)), (88, .v (.bool true)), (89, .v undef), (90, .v undef), (91, .v undef), (92, .v (.bool true))]) (init := [0, 1]) (fin := [13]) (sps := [⟨[1], [], [2], [(.slot 81)]⟩, ⟨[2], [], [3], [(.slot 82)]⟩, ⟨[3], [], [4], [(.slot 83)]⟩, ⟨[4], [], [5], [(.slot 84)]⟩, ⟨[4], [], [6], [(.slot 85)]⟩, ⟨[4], [], [7], [(.slot 86)]⟩, ⟨[4], [], [8], [(.slot 87)]⟩, ⟨[8], [], [9], [(.slot 88)]⟩, ⟨[9], [], [10], [(.slot 89)]⟩, ⟨[9], [], [11], [(.slot 90)]⟩, ⟨[9], [], [12], [(.slot 91)]⟩, ⟨[9], [], [13], [(.slot 92)]⟩]) (es' := [(92, .v (.bool true))]) (by kernel_rfl) rfl rfl
              ⟨st_plain rfl (op_move _ _ _ _ rfl rfl),
                st_plain rfl (op_un _ _ _ _ rfl rfl),
                st_plain rfl (op_move _ _ _ _ (congrArg (fun b => AV.v (Value.bool b)) hg15_2) rfl),
                st_skip 2 83 _ false rfl rfl rfl rfl (List.Mem.head _),
                st_skip 2 83 _ false rfl rfl rfl rfl (List.Mem.head _),
                st_skip 2 83 _ false rfl rfl rfl rfl (List.Mem.head _),
                st_plain rfl (op_pick _ _ true _ rfl rfl),
                st_plain rfl (op_move _ _ _ _ rfl rfl),
                st_skip 7 88 _ false rfl rfl rfl rfl (List.Mem.head _),
                st_skip 7 88 _ false rfl rfl rfl rfl (List.Mem.head _),
                st_skip 7 88 _ false rfl rfl rfl rfl (List.Mem.head _),
                st_plain rfl (op_pick _ _ true _ rfl rfl),
                trivial⟩ ?_
            exact hl127 _ (Option.some.inj h).symm
          · refine cond_some h (fun hg15_7 h => ?_) (fun hg15_7 h => ?_)
            · refine ht_seqR hn (El := [_, _, (81, .v (.bool s65)), (82, .v (.bool (!s65))), (83, .v (.bool false)), (84, .ptr 1 1), (85, .v (.int .i64 f.Number)), (86, .v (.bool ((decide (f.Number < 1))))), (87, .v (.bool ((decide (f.Number < 1))))), (88, .v (.bool true)), (89, .v undef), (90, .v undef), (91, .v undef), (92, .v (.bool true))]) (init := [0, 1]) (fin := [13]) (sps := [⟨[1], [], [2], [(.slot 81)]⟩, ⟨[2], [], [3], [(.slot 82)]⟩, ⟨[3], [], [4], [(.slot 83)]⟩, ⟨[4, 0], [], [5], [(.slot 84)]⟩, ⟨[4, 5, 0], [], [6], [(.slot 85)]⟩, ⟨[4, 6], [], [7], [(.slot 86)]⟩, ⟨[4, 7], [], [8], [(.slot 87)]⟩, ⟨[8], [], [9], [(.slot 88)]⟩, ⟨[9], [], [10], [(.slot 89)]⟩, ⟨[9], [], [11], [(.slot 90)]⟩, ⟨[9], [], [12], [(.slot 91)]⟩, ⟨[9], [], [13], [(.slot 92)]⟩]) (es' := [(92, .v (.bool true))]) (by kernel_rfl) rfl rfl
                ⟨st_plain rfl (op_move _ _ _ _ rfl rfl),
                  st_plain rfl (op_un _ _ _ _ rfl rfl),
                  st_plain rfl (op_move _ _ _ _ (congrArg (fun b => AV.v (Value.bool b)) hg15_2) rfl),
                  st_run 2 83 false rfl rfl rfl (List.Mem.head _) (op_fieldAddr _ _ _ _ 1 0 _ Try.underlying24 rfl sz3 rfl rfl (by decide)),
                  st_run 2 83 false rfl rfl rfl (List.Mem.head _) (op_load _ _ _ _ _ _ Try.underlying3 rfl rfl rfl (Nat.le_of_ble_eq_true rfl) rfl rfl rfl),
                  st_run 2 83 false rfl rfl rfl (List.Mem.head _) (op_bin _ _ _ _ _ rfl rfl rfl),
                  st_plain rfl (op_pick _ _ false _ rfl rfl),
                  st_plain rfl (op_move _ _ _ _ (congrArg (fun b => AV.v (Value.bool b)) hg15_7) rfl),
                  st_skip 7 88 _ false rfl rfl rfl rfl (List.Mem.head _),
                  st_skip 7 88 _ false rfl rfl rfl rfl (List.Mem.head _),
                  st_skip 7 88 _ false rfl rfl rfl rfl (List.Mem.head _),
                  st_plain rfl (op_pick _ _ true _ rfl rfl),
                  trivial⟩ ?_
              exact hl127 _ (Option.some.inj h).symm
            · refine ht_seqR hn (El := [_, _, (81, .v (.bool s65)), (82, .v (.bool (!s65))), (83, .v (.bool false)), (84, .ptr 1 1), (85, .v (.int .i64 f.Number)), (86, .v (.bool ((decide (f.Number < 1))))), (87, .v (.bool ((decide (f.Number < 1))))), (88, .v (.bool false)), (89, .ptr 1 1), (90, .v (.int .i64 f.Number)), (91, .v (.bool ((decide (65535 < f.Number))))), (92, .v (.bool ((decide (65535 < f.Number)))))]) (init := [0, 1]) (fin := [13]) (sps := [⟨[1], [], [2], [(.slot 81)]⟩, ⟨[2], [], [3], [(.slot 82)]⟩, ⟨[3], [], [4], [(.slot 83)]⟩, ⟨[4, 0], [], [5], [(.slot 84)]⟩, ⟨[4, 5, 0], [], [6], [(.slot 85)]⟩, ⟨[4, 6], [], [7], [(.slot 86)]⟩, ⟨[4, 7], [], [8], [(.slot 87)]⟩, ⟨[8], [], [9], [(.slot 88)]⟩, ⟨[9, 0], [], [10], [(.slot 89)]⟩, ⟨[9, 10, 0], [], [11], [(.slot 90)]⟩, ⟨[9, 11], [], [12], [(.slot 91)]⟩, ⟨[9, 12], [], [13], [(.slot 92)]⟩]) (es' := [(92, .v (.bool ((decide (65535 < f.Number)))))]) (by kernel_rfl) rfl rfl
                ⟨st_plain rfl (op_move _ _ _ _ rfl rfl),
                  st_plain rfl (op_un _ _ _ _ rfl rfl),
                  st_plain rfl (op_move _ _ _ _ (congrArg (fun b => AV.v (Value.bool b)) hg15_2) rfl),
                  st_run 2 83 false rfl rfl rfl (List.Mem.head _) (op_fieldAddr _ _ _ _ 1 0 _ Try.underlying24 rfl sz3 rfl rfl (by decide)),
                  st_run 2 83 false rfl rfl rfl (List.Mem.head _) (op_load _ _ _ _ _ _ Try.underlying3 rfl rfl rfl (Nat.le_of_ble_eq_true rfl) rfl rfl rfl),
                  st_run 2 83 false rfl rfl rfl (List.Mem.head _) (op_bin _ _ _ _ _ rfl rfl rfl),
                  st_plain rfl (op_pick _ _ false _ rfl rfl),
                  st_plain rfl (op_move _ _ _ _ (congrArg (fun b => AV.v (Value.bool b)) hg15_7) rfl),
                  st_run 7 88 false rfl rfl rfl (List.Mem.head _) (op_fieldAddr _ _ _ _ 1 0 _ Try.underlying24 rfl sz3 rfl rfl (by decide)),
                  st_run 7 88 false rfl rfl rfl (List.Mem.head _) (op_load _ _ _ _ _ _ Try.underlying3 rfl rfl rfl (Nat.le_of_ble_eq_true rfl) rfl rfl rfl),
                  st_run 7 88 false rfl rfl rfl (List.Mem.head _) (op_bin _ _ _ _ _ rfl rfl rfl),
                  st_plain rfl (op_pick _ _ false _ rfl rfl),
                  trivial⟩ ?_
              exact hl127 _ (Option.some.inj h).symm
      · intro u66 h hl67 hr68
        refine ht_seq ?_
        refine ht_seqR hn (El := [_, _, _, _, _, _, _, (35, .ptr 1 0), (36, .v (.int .i64 f.Kind))]) (init := [0, 1, 2, 3, 4, 5, 6]) (fin := [0, 1, 2, 3, 4, 5, 6, 8]) (sps := [⟨[0], [], [7], [(.slot 35)]⟩, ⟨[7, 0], [], [8], [(.slot 36)]⟩]) (es' := [(_, _), (_, _), (_, _), (_, _), (_, _), (_, _), (_, _), (36, .v (.int .i64 f.Kind))]) (by kernel_rfl) rfl rfl
          ⟨st_plain rfl (op_fieldAddr _ _ _ _ 1 0 _ Try.underlying24 rfl sz3 rfl rfl (by decide)),
            st_plain rfl (op_load _ _ _ _ _ _ Try.underlying3 rfl rfl rfl (Nat.le_of_ble_eq_true rfl) rfl rfl rfl),
            trivial⟩ ?_
        refine pt_then ?_
        refine ht_joinS h (fun (s95 : Bool) => [(1, .box 24 [.v (.int .i64 f.Kind), .v (.int .i64 f.Number), .v (.int .i64 f.Offset), .v (.int .i64 f.Seq), .fl .shr 1 (List.map (Value.int .u8) f.Data)]), (8, .v (.bool s95))]) ?_ ?_
        · rintro s95 h
          exact hl67 _ (Option.some.inj h).symm
        · intro u96 h hl97 hr98
          refine ht_block ?_
          refine ht_seq ?_
          refine ht_joinS h (fun (s100 : Bool) => [(1, .box 24 [.v (.int .i64 f.Kind), .v (.int .i64 f.Number), .v (.int .i64 f.Offset), .v (.int .i64 f.Seq), .fl .shr 1 (List.map (Value.int .u8) f.Data)]), (3, .v (.bool (f.Offset == 0))), (4, .v (.bool (f.Seq == 0))), (5, .v (.bool (((f.Data.length : Int) == 0)))), (6, .v (.bool s1)), (7, .v (.bool s5)), (8, .v (.bool false)), (36, .v (.int .i64 f.Kind)), (37, .v (.bool s100))]) ?_ ?_
          · rintro s100 h
            refine pt_then ?_
            refine ht_cond _ rfl (fun hb105 => ?_) (fun hb105 => ?_)
            · have h := cond_t hb105 h
              refine ht_joinS h (fun (s106 : Bool) => [(1, .box 24 [.v (.int .i64 f.Kind), .v (.int .i64 f.Number), .v (.int .i64 f.Offset), .v (.int .i64 f.Seq), .fl .shr 1 (List.map (Value.int .u8) f.Data)]), (8, .v (.bool s106))]) ?_ ?_
              · rintro s106 h
                refine pt_inb ?_
                exact hl97 _ (Option.some.inj h).symm
              · intro u107 h hl108 hr109
                refine cond_some h (fun hg8_1 h => ?_) (fun hg8_1 h => ?_)
                · refine cond_some h (fun hg8_4 h => ?_) (fun hg8_4 h => ?_)
                  · refine ht_seqR hn (El := (_ :: _ :: _ :: _ :: _ :: _ :: _ :: _ :: _ :: (40, .v (.bool s1)) :: (41, .v (.bool true)) :: (42, .v (.bool (f.Seq == 0))) :: (43, .v (.bool (f.Seq == 0))) :: (44, .v (.bool true)) :: (45, .v (.bool (((f.Data.length : Int) == 0)))) :: (46, .v (.bool (((f.Data.length : Int) == 0)))) :: (8, .v (.bool (((f.Data.length : Int) == 0)))) :: [])) (init := [0, 1, 2, 3, 4, 5, 6, 7, 8]) (fin := [0, 16]) (sps := [⟨[4], [], [9], [(.slot 40)]⟩, ⟨[9], [], [10], [(.slot 41)]⟩, ⟨[10, 2], [], [11], [(.slot 42)]⟩, ⟨[10, 11], [], [12], [(.slot 43)]⟩, ⟨[12], [], [13], [(.slot 44)]⟩, ⟨[13, 3], [], [14], [(.slot 45)]⟩, ⟨[13, 14], [], [15], [(.slot 46)]⟩, ⟨[15], [6], [16], [(.slot 8)]⟩]) (es' := [(_, _), (8, .v (.bool (((f.Data.length : Int) == 0))))]) (by kernel_rfl) rfl rfl
                      ⟨st_plain rfl (op_move _ _ _ _ rfl rfl),
                        st_plain rfl (op_move _ _ _ _ (congrArg (fun b => AV.v (Value.bool b)) hg8_1) rfl),
                        st_run 1 41 true rfl rfl rfl (List.Mem.head _) (op_move _ _ _ _ rfl rfl),
                        st_plain rfl (op_pick _ _ true _ rfl rfl),
                        st_plain rfl (op_move _ _ _ _ (congrArg (fun b => AV.v (Value.bool b)) hg8_4) rfl),
                        st_run 4 44 true rfl rfl rfl (List.Mem.head _) (op_move _ _ _ _ rfl rfl),
                        st_plain rfl (op_pick _ _ true _ rfl rfl),
                        st_plain rfl (LOp.drop [_] (op_assign _ _ _ _ rfl rfl)),
                        trivial⟩ ?_
                    exact hl108 _ (Option.some.inj h).symm
                  · refine ht_seqR hn (El := (_ :: _ :: _ :: _ :: _ :: _ :: _ :: _ :: _ :: (40, .v (.bool s1)) :: (41, .v (.bool true)) :: (42, .v (.bool (f.Seq == 0))) :: (43, .v (.bool (f.Seq == 0))) :: (44, .v (.bool false)) :: (45, .v undef) :: (46, .v (.bool false)) :: (8, .v (.bool false)) :: [])) (init := [0, 1, 2, 3, 4, 5, 6, 7, 8]) (fin := [0, 16]) (sps := [⟨[4], [], [9], [(.slot 40)]⟩, ⟨[9], [], [10], [(.slot 41)]⟩, ⟨[10, 2], [], [11], [(.slot 42)]⟩, ⟨[10, 11], [], [12], [(.slot 43)]⟩, ⟨[12], [], [13], [(.slot 44)]⟩, ⟨[13], [], [14], [(.slot 45)]⟩, ⟨[13], [], [15], [(.slot 46)]⟩, ⟨[15], [6], [16], [(.slot 8)]⟩]) (es' := [(_, _), (8, .v (.bool false))]) (by kernel_rfl) rfl rfl
                      ⟨st_plain rfl (op_move _ _ _ _ rfl rfl),
                        st_plain rfl (op_move _ _ _ _ (congrArg (fun b => AV.v (Value.bool b)) hg8_1) rfl),
                        st_run 1 41 true rfl rfl rfl (List.Mem.head _) (op_move _ _ _ _ rfl rfl),
                        st_plain rfl (op_pick _ _ true _ rfl rfl),
                        st_plain rfl (op_move _ _ _ _ (congrArg (fun b => AV.v (Value.bool b)) hg8_4) rfl),
                        st_skip 4 44 _ true rfl rfl rfl rfl (List.Mem.head _),
                        st_plain rfl (op_pick _ _ false _ rfl rfl),
                        st_plain rfl (LOp.drop [_] (op_assign _ _ _ _ rfl rfl)),
                        trivial⟩ ?_
                    exact hl108 _ (Option.some.inj h).symm
                · refine ht_seqR hn (El := (_ :: _ :: _ :: _ :: _ :: _ :: _ :: _ :: _ :: (40, .v (.bool s1)) :: (41, .v (.bool false)) :: (42, .v undef) :: (43, .v (.bool false)) :: (44, .v (.bool false)) :: (45, .v undef) :: (46, .v (.bool false)) :: (8, .v (.bool false)) :: [])) (init := [0, 1, 2, 3, 4, 5, 6, 7, 8]) (fin := [0, 16]) (sps := [⟨[4], [], [9], [(.slot 40)]⟩, ⟨[9], [], [10], [(.slot 41)]⟩, ⟨[10], [], [11], [(.slot 42)]⟩, ⟨[10], [], [12], [(.slot 43)]⟩, ⟨[12], [], [13], [(.slot 44)]⟩, ⟨[13], [], [14], [(.slot 45)]⟩, ⟨[13], [], [15], [(.slot 46)]⟩, ⟨[15], [6], [16], [(.slot 8)]⟩]) (es' := [(_, _), (8, .v (.bool false))]) (by kernel_rfl) rfl rfl
                    ⟨st_plain rfl (op_move _ _ _ _ rfl rfl),
                      st_plain rfl (op_move _ _ _ _ (congrArg (fun b => AV.v (Value.bool b)) hg8_1) rfl),
                      st_skip 1 41 _ true rfl rfl rfl rfl (List.Mem.head _),
                      st_plain rfl (op_pick _ _ false _ rfl rfl),
                      st_plain rfl (op_move _ _ _ _ rfl rfl),
                      st_skip 4 44 _ true rfl rfl rfl rfl (List.Mem.head _),
                      st_plain rfl (op_pick _ _ false _ rfl rfl),
                      st_plain rfl (LOp.drop [_] (op_assign _ _ _ _ rfl rfl)),
                      trivial⟩ ?_
                  exact hl108 _ (Option.some.inj h).symm
            · have h := cond_f hb105 h
              refine ht_seq ?_
              refine ht_seqR hn (El := [_, _, _, _, _, _, _, _, _, (48, .v (.bool (f.Kind == 3))), (47, .v (.bool (f.Kind == 3)))]) (init := [0, 1, 2, 3, 4, 5, 6, 7, 8]) (fin := [0, 1, 2, 3, 4, 5, 6, 7, 10]) (sps := [⟨[7], [], [9], [(.slot 48)]⟩, ⟨[9], [], [10], [(.slot 47)]⟩]) (es' := [(_, _), (_, _), (_, _), (_, _), (_, _), (_, _), (_, _), (_, _), (47, .v (.bool (f.Kind == 3)))]) (by kernel_rfl) rfl rfl
                ⟨st_plain rfl (op_bin _ _ _ _ _ rfl rfl rfl),
                  st_plain rfl (op_assign _ _ _ _ rfl rfl),
                  trivial⟩ ?_
              refine pt_then ?_
              refine ht_cond _ rfl (fun hb110 => ?_) (fun hb110 => ?_)
              · have h := cond_t hb110 h
                refine ht_joinS h (fun (s111 : Bool) => [(1, .box 24 [.v (.int .i64 f.Kind), .v (.int .i64 f.Number), .v (.int .i64 f.Offset), .v (.int .i64 f.Seq), .fl .shr 1 (List.map (Value.int .u8) f.Data)]), (8, .v (.bool s111))]) ?_ ?_
                · rintro s111 h
                  refine pt_inb ?_
                  exact hl97 _ (Option.some.inj h).symm
                · intro u112 h hl113 hr114
                  refine cond_some h (fun hg10_1 h => ?_) (fun hg10_1 h => ?_)
                  · refine cond_some h (fun hg10_4 h => ?_) (fun hg10_4 h => ?_)
                    · refine cond_some h (fun hg10_8 h => ?_) (fun hg10_8 h => ?_)
                      · refine ht_seqR hn (El := (_ :: _ :: _ :: _ :: _ :: _ :: _ :: _ :: _ :: (49, .v (.bool s1)) :: (50, .v (.bool true)) :: (51, .v (.bool s5)) :: (52, .v (.bool s5)) :: (53, .v (.bool true)) :: (54, .v (.bool (((f.Data.length : Int) == 0)))) :: (55, .v (.bool ((!(((f.Data.length : Int) == 0)))))) :: (56, .v (.bool ((!(((f.Data.length : Int) == 0)))))) :: (57, .v (.bool true)) :: (58, .ptr 1 4) :: (59, .fl .shr 1 (List.map (Value.int .u8) f.Data)) :: (60, .v (.int .i64 (f.Data.length : Int))) :: (61, .v (.bool ((decide ((f.Data.length : Int) ≤ 48))))) :: (62, .v (.bool ((decide ((f.Data.length : Int) ≤ 48))))) :: (8, .v (.bool ((decide ((f.Data.length : Int) ≤ 48))))) :: [])) (init := [0, 1, 2, 3, 4, 5, 6, 7, 8]) (fin := [0, 23]) (sps := (⟨[4], [], [9], [(.slot 49)]⟩ :: ⟨[9], [], [10], [(.slot 50)]⟩ :: ⟨[10, 5], [], [11], [(.slot 51)]⟩ :: ⟨[10, 11], [], [12], [(.slot 52)]⟩ :: ⟨[12], [], [13], [(.slot 53)]⟩ :: ⟨[13, 3], [], [14], [(.slot 54)]⟩ :: ⟨[13, 14], [], [15], [(.slot 55)]⟩ :: ⟨[13, 15], [], [16], [(.slot 56)]⟩ :: ⟨[16], [], [17], [(.slot 57)]⟩ :: ⟨[17, 0], [], [18], [(.slot 58)]⟩ :: ⟨[17, 18, 0], [], [19], [(.slot 59)]⟩ :: ⟨[17, 19], [], [20], [(.slot 60)]⟩ :: ⟨[17, 20], [], [21], [(.slot 61)]⟩ :: ⟨[17, 21], [], [22], [(.slot 62)]⟩ :: ⟨[22], [6], [23], [(.slot 8)]⟩ :: [])) (es' := [(_, _), (8, .v (.bool ((decide ((f.Data.length : Int) ≤ 48)))))]) (by kernel_rfl) rfl rfl
                          ⟨st_plain rfl (op_move _ _ _ _ rfl rfl),
                            st_plain rfl (op_move _ _ _ _ (congrArg (fun b => AV.v (Value.bool b)) hg10_1) rfl),
                            st_run 1 50 true rfl rfl rfl (List.Mem.head _) (op_move _ _ _ _ rfl rfl),
                            st_plain rfl (op_pick _ _ true _ rfl rfl),
                            st_plain rfl (op_move _ _ _ _ (congrArg (fun b => AV.v (Value.bool b)) hg10_4) rfl),
                            st_run 4 53 true rfl rfl rfl (List.Mem.head _) (op_move _ _ _ _ rfl rfl),
                            st_run 4 53 true rfl rfl rfl (List.Mem.head _) (op_un _ _ _ _ rfl rfl),
                            st_plain rfl (op_pick _ _ true _ rfl rfl),
                            st_plain rfl (op_move _ _ _ _ (congrArg (fun b => AV.v (Value.bool b)) hg10_8) rfl),
                            st_run 8 57 true rfl rfl rfl (List.Mem.head _) (op_fieldAddr _ _ _ _ 1 0 _ Try.underlying24 rfl sz22 rfl rfl (by decide)),
                            st_run 8 57 true rfl rfl rfl (List.Mem.head _) (op_load _ _ _ _ _ _ Try.underlying22 rfl rfl rfl (Nat.le_of_ble_eq_true rfl) rfl rfl rfl),
                            st_run 8 57 true rfl rfl rfl (List.Mem.head _) (op_len_fl _ _ _ Try.underlying22 rfl (by decide) (map_len _)),
                            st_run 8 57 true rfl rfl rfl (List.Mem.head _) (op_bin _ _ _ _ _ rfl rfl rfl),
                            st_plain rfl (op_pick _ _ true _ rfl rfl),
                            st_plain rfl (LOp.drop [_] (op_assign _ _ _ _ rfl rfl)),
                            trivial⟩ ?_
                        exact hl113 _ (Option.some.inj h).symm
                      · refine ht_seqR hn (El := (_ :: _ :: _ :: _ :: _ :: _ :: _ :: _ :: _ :: (49, .v (.bool s1)) :: (50, .v (.bool true)) :: (51, .v (.bool s5)) :: (52, .v (.bool s5)) :: (53, .v (.bool true)) :: (54, .v (.bool (((f.Data.length : Int) == 0)))) :: (55, .v (.bool ((!(((f.Data.length : Int) == 0)))))) :: (56, .v (.bool ((!(((f.Data.length : Int) == 0)))))) :: (57, .v (.bool false)) :: (58, .v undef) :: (59, .v undef) :: (60, .v undef) :: (61, .v undef) :: (62, .v (.bool false)) :: (8, .v (.bool false)) :: [])) (init := [0, 1, 2, 3, 4, 5, 6, 7, 8]) (fin := [0, 23]) (sps := (⟨[4], [], [9], [(.slot 49)]⟩ :: ⟨[9], [], [10], [(.slot 50)]⟩ :: ⟨[10, 5], [], [11], [(.slot 51)]⟩ :: ⟨[10, 11], [], [12], [(.slot 52)]⟩ :: ⟨[12], [], [13], [(.slot 53)]⟩ :: ⟨[13, 3], [], [14], [(.slot 54)]⟩ :: ⟨[13, 14], [], [15], [(.slot 55)]⟩ :: ⟨[13, 15], [], [16], [(.slot 56)]⟩ :: ⟨[16], [], [17], [(.slot 57)]⟩ :: ⟨[17], [], [18], [(.slot 58)]⟩ :: ⟨[17], [], [19], [(.slot 59)]⟩ :: ⟨[17], [], [20], [(.slot 60)]⟩ :: ⟨[17], [], [21], [(.slot 61)]⟩ :: ⟨[17], [], [22], [(.slot 62)]⟩ :: ⟨[22], [6], [23], [(.slot 8)]⟩ :: [])) (es' := [(_, _), (8, .v (.bool false))]) (by kernel_rfl) rfl rfl
                          ⟨st_plain rfl (op_move _ _ _ _ rfl rfl),
                            st_plain rfl (op_move _ _ _ _ (congrArg (fun b => AV.v (Value.bool b)) hg10_1) rfl),
                            st_run 1 50 true rfl rfl rfl (List.Mem.head _) (op_move _ _ _ _ rfl rfl),
                            st_plain rfl (op_pick _ _ true _ rfl rfl),
                            st_plain rfl (op_move _ _ _ _ (congrArg (fun b => AV.v (Value.bool b)) hg10_4) rfl),
                            st_run 4 53 true rfl rfl rfl (List.Mem.head _) (op_move _ _ _ _ rfl rfl),
                            st_run 4 53 true rfl rfl rfl (List.Mem.head _) (op_un _ _ _ _ rfl rfl),
                            st_plain rfl (op_pick _ _ true _ rfl rfl),
                            st_plain rfl (op_move _ _ _ _ (congrArg (fun b => AV.v (Value.bool b)) hg10_8) rfl),
                            st_skip 8 57 _ true rfl rfl rfl rfl (List.Mem.head _),
                            st_skip 8 57 _ true rfl rfl rfl rfl (List.Mem.head _),
                            st_skip 8 57 _ true rfl rfl rfl rfl (List.Mem.head _),
                            st_skip 8 57 _ true rfl rfl rfl rfl (List.Mem.head _),
                            st_plain rfl (op_pick _ _ false _ rfl rfl),
                            st_plain rfl (LOp.drop [_] (op_assign _ _ _ _ rfl rfl)),
                            trivial⟩ ?_
                        exact hl113 _ (Option.some.inj h).symm
                    · refine ht_seqR hn (El := (_ :: _ :: _ :: _ :: _ :: _ :: _ :: _ :: _ :: (49, .v (.bool s1)) :: (50, .v (.bool true)) :: (51, .v (.bool s5)) :: (52, .v (.bool s5)) :: (53, .v (.bool false)) :: (54, .v undef) :: (55, .v undef) :: (56, .v (.bool false)) :: (57, .v (.bool false)) :: (58, .v undef) :: (59, .v undef) :: (60, .v undef) :: (61, .v undef) :: (62, .v (.bool false)) :: (8, .v (.bool false)) :: [])) (init := [0, 1, 2, 3, 4, 5, 6, 7, 8]) (fin := [0, 23]) (sps := (⟨[4], [], [9], [(.slot 49)]⟩ :: ⟨[9], [], [10], [(.slot 50)]⟩ :: ⟨[10, 5], [], [11], [(.slot 51)]⟩ :: ⟨[10, 11], [], [12], [(.slot 52)]⟩ :: ⟨[12], [], [13], [(.slot 53)]⟩ :: ⟨[13], [], [14], [(.slot 54)]⟩ :: ⟨[13], [], [15], [(.slot 55)]⟩ :: ⟨[13], [], [16], [(.slot 56)]⟩ :: ⟨[16], [], [17], [(.slot 57)]⟩ :: ⟨[17], [], [18], [(.slot 58)]⟩ :: ⟨[17], [], [19], [(.slot 59)]⟩ :: ⟨[17], [], [20], [(.slot 60)]⟩ :: ⟨[17], [], [21], [(.slot 61)]⟩ :: ⟨[17], [], [22], [(.slot 62)]⟩ :: ⟨[22], [6], [23], [(.slot 8)]⟩ :: [])) (es' := [(_, _), (8, .v (.bool false))]) (by kernel_rfl) rfl rfl
                        ⟨st_plain rfl (op_move _ _ _ _ rfl rfl),
                          st_plain rfl (op_move _ _ _ _ (congrArg (fun b => AV.v (Value.bool b)) hg10_1) rfl),
                          st_run 1 50 true rfl rfl rfl (List.Mem.head _) (op_move _ _ _ _ rfl rfl),
                          st_plain rfl (op_pick _ _ true _ rfl rfl),
                          st_plain rfl (op_move _ _ _ _ (congrArg (fun b => AV.v (Value.bool b)) hg10_4) rfl),
                          st_skip 4 53 _ true rfl rfl rfl rfl (List.Mem.head _),
                          st_skip 4 53 _ true rfl rfl rfl rfl (List.Mem.head _),
                          st_plain rfl (op_pick _ _ false _ rfl rfl),
                          st_plain rfl (op_move _ _ _ _ rfl rfl),
                          st_skip 8 57 _ true rfl rfl rfl rfl (List.Mem.head _),
                          st_skip 8 57 _ true rfl rfl rfl rfl (List.Mem.head _),
                          st_skip 8 57 _ true rfl rfl rfl rfl (List.Mem.head _),
                          st_skip 8 57 _ true rfl rfl rfl rfl (List.Mem.head _),
                          st_plain rfl (op_pick _ _ false _ rfl rfl),
                          st_plain rfl (LOp.drop [_] (op_assign _ _ _ _ rfl rfl)),
                          trivial⟩ ?_
                      exact hl113 _ (Option.some.inj h).symm
                  · refine ht_seqR hn (El := (_ :: _ :: _ :: _ :: _ :: _ :: _ :: _ :: _ :: (49, .v (.bool s1)) :: (50, .v (.bool false)) :: (51, .v undef) :: (52, .v (.bool false)) :: (53, .v (.bool false)) :: (54, .v undef) :: (55, .v undef) :: (56, .v (.bool false)) :: (57, .v (.bool false)) :: (58, .v undef) :: (59, .v undef) :: (60, .v undef) :: (61, .v undef) :: (62, .v (.bool false)) :: (8, .v (.bool false)) :: [])) (init := [0, 1, 2, 3, 4, 5, 6, 7, 8]) (fin := [0, 23]) (sps := (⟨[4], [], [9], [(.slot 49)]⟩ :: ⟨[9], [], [10], [(.slot 50)]⟩ :: ⟨[10], [], [11], [(.slot 51)]⟩ :: ⟨[10], [], [12], [(.slot 52)]⟩ :: ⟨[12], [], [13], [(.slot 53)]⟩ :: ⟨[13], [], [14], [(.slot 54)]⟩ :: ⟨[13], [], [15], [(.slot 55)]⟩ :: ⟨[13], [], [16], [(.slot 56)]⟩ :: ⟨[16], [], [17], [(.slot 57)]⟩ :: ⟨[17], [], [18], [(.slot 58)]⟩ :: ⟨[17], [], [19], [(.slot 59)]⟩ :: ⟨[17], [], [20], [(.slot 60)]⟩ :: ⟨[17], [], [21], [(.slot 61)]⟩ :: ⟨[17], [], [22], [(.slot 62)]⟩ :: ⟨[22], [6], [23], [(.slot 8)]⟩ :: [])) (es' := [(_, _), (8, .v (.bool false))]) (by kernel_rfl) rfl rfl
                      ⟨st_plain rfl (op_move _ _ _ _ rfl rfl),
                        st_plain rfl (op_move _ _ _ _ (congrArg (fun b => AV.v (Value.bool b)) hg10_1) rfl),
                        st_skip 1 50 _ true rfl rfl rfl rfl (List.Mem.head _),
                        st_plain rfl (op_pick _ _ false _ rfl rfl),
                        st_plain rfl (op_move _ _ _ _ rfl rfl),
                        st_skip 4 53 _ true rfl rfl rfl rfl (List.Mem.head _),
                        st_skip 4 53 _ true rfl rfl rfl rfl (List.Mem.head _),
                        st_plain rfl (op_pick _ _ false _ rfl rfl),
                        st_plain rfl (op_move _ _ _ _ rfl rfl),
                        st_skip 8 57 _ true rfl rfl rfl rfl (List.Mem.head _),
                        st_skip 8 57 _ true rfl rfl rfl rfl (List.Mem.head _),
                        st_skip 8 57 _ true rfl rfl rfl rfl (List.Mem.head _),
                        st_skip 8 57 _ true rfl rfl rfl rfl (List.Mem.head _),
                        st_plain rfl (op_pick _ _ false _ rfl rfl),
                        st_plain rfl (LOp.drop [_] (op_assign _ _ _ _ rfl rfl)),
                        trivial⟩ ?_
                    exact hl113 _ (Option.some.inj h).symm
              · have h := cond_f hb110 h
                refine ht_seq ?_
                refine ht_seqR hn (El := [_, _, _, _, _, _, _, _, _, (64, .v (.bool (f.Kind == 4))), (63, .v (.bool (f.Kind == 4)))]) (init := [0, 1, 2, 3, 4, 5, 6, 7, 8]) (fin := [0, 1, 2, 3, 5, 6, 7, 10]) (sps := [⟨[7], [], [9], [(.slot 64)]⟩, ⟨[9], [], [10], [(.slot 63)]⟩]) (es' := [(_, _), (_, _), (_, _), (_, _), (_, _), (_, _), (_, _), (63, .v (.bool (f.Kind == 4)))]) (by kernel_rfl) rfl rfl
                  ⟨st_plain rfl (op_bin _ _ _ _ _ rfl rfl rfl),
                    st_plain rfl (op_assign _ _ _ _ rfl rfl),
                    trivial⟩ ?_
                refine pt_then ?_
                refine ht_cond _ rfl (fun hb115 => ?_) (fun hb115 => ?_)
                · have h := cond_t hb115 h
                  refine ht_joinS h (fun (s116 : Bool) => [(1, .box 24 [.v (.int .i64 f.Kind), .v (.int .i64 f.Number), .v (.int .i64 f.Offset), .v (.int .i64 f.Seq), .fl .shr 1 (List.map (Value.int .u8) f.Data)]), (8, .v (.bool s116))]) ?_ ?_
                  · rintro s116 h
                    refine pt_inb ?_
                    exact hl97 _ (Option.some.inj h).symm
                  · intro u117 h hl118 hr119
                    refine cond_some h (fun hg12_1 h => ?_) (fun hg12_1 h => ?_)
                    · refine cond_some h (fun hg12_4 h => ?_) (fun hg12_4 h => ?_)
                      · refine ht_seqR hn (El := (_ :: _ :: _ :: _ :: _ :: _ :: _ :: _ :: (65, .v (.bool (f.Offset == 0))) :: (66, .v (.bool true)) :: (67, .v (.bool s5)) :: (68, .v (.bool s5)) :: (69, .v (.bool true)) :: (70, .v (.bool (((f.Data.length : Int) == 0)))) :: (71, .v (.bool (((f.Data.length : Int) == 0)))) :: (8, .v (.bool (((f.Data.length : Int) == 0)))) :: [])) (init := [0, 1, 2, 3, 4, 5, 6, 7]) (fin := [0, 15]) (sps := [⟨[1], [], [8], [(.slot 65)]⟩, ⟨[8], [], [9], [(.slot 66)]⟩, ⟨[9, 4], [], [10], [(.slot 67)]⟩, ⟨[9, 10], [], [11], [(.slot 68)]⟩, ⟨[11], [], [12], [(.slot 69)]⟩, ⟨[12, 3], [], [13], [(.slot 70)]⟩, ⟨[12, 13], [], [14], [(.slot 71)]⟩, ⟨[14], [5], [15], [(.slot 8)]⟩]) (es' := [(_, _), (8, .v (.bool (((f.Data.length : Int) == 0))))]) (by kernel_rfl) rfl rfl
                          ⟨st_plain rfl (op_move _ _ _ _ rfl rfl),
                            st_plain rfl (op_move _ _ _ _ (congrArg (fun b => AV.v (Value.bool b)) hg12_1) rfl),
                            st_run 1 66 true rfl rfl rfl (List.Mem.head _) (op_move _ _ _ _ rfl rfl),
                            st_plain rfl (op_pick _ _ true _ rfl rfl),
                            st_plain rfl (op_move _ _ _ _ (congrArg (fun b => AV.v (Value.bool b)) hg12_4) rfl),
                            st_run 4 69 true rfl rfl rfl (List.Mem.head _) (op_move _ _ _ _ rfl rfl),
                            st_plain rfl (op_pick _ _ true _ rfl rfl),
                            st_plain rfl (LOp.drop [_] (op_assign _ _ _ _ rfl rfl)),
                            trivial⟩ ?_
                        exact hl118 _ (Option.some.inj h).symm
                      · refine ht_seqR hn (El := (_ :: _ :: _ :: _ :: _ :: _ :: _ :: _ :: (65, .v (.bool (f.Offset == 0))) :: (66, .v (.bool true)) :: (67, .v (.bool s5)) :: (68, .v (.bool s5)) :: (69, .v (.bool false)) :: (70, .v undef) :: (71, .v (.bool false)) :: (8, .v (.bool false)) :: [])) (init := [0, 1, 2, 3, 4, 5, 6, 7]) (fin := [0, 15]) (sps := [⟨[1], [], [8], [(.slot 65)]⟩, ⟨[8], [], [9], [(.slot 66)]⟩, ⟨[9, 4], [], [10], [(.slot 67)]⟩, ⟨[9, 10], [], [11], [(.slot 68)]⟩, ⟨[11], [], [12], [(.slot 69)]⟩, ⟨[12], [], [13], [(.slot 70)]⟩, ⟨[12], [], [14], [(.slot 71)]⟩, ⟨[14], [5], [15], [(.slot 8)]⟩]) (es' := [(_, _), (8, .v (.bool false))]) (by kernel_rfl) rfl rfl
                          ⟨st_plain rfl (op_move _ _ _ _ rfl rfl),
                            st_plain rfl (op_move _ _ _ _ (congrArg (fun b => AV.v (Value.bool b)) hg12_1) rfl),
                            st_run 1 66 true rfl rfl rfl (List.Mem.head _) (op_move _ _ _ _ rfl rfl),
                            st_plain rfl (op_pick _ _ true _ rfl rfl),
                            st_plain rfl (op_move _ _ _ _ (congrArg (fun b => AV.v (Value.bool b)) hg12_4) rfl),
                            st_skip 4 69 _ true rfl rfl rfl rfl (List.Mem.head _),
                            st_plain rfl (op_pick _ _ false _ rfl rfl),
                            st_plain rfl (LOp.drop [_] (op_assign _ _ _ _ rfl rfl)),
                            trivial⟩ ?_
                        exact hl118 _ (Option.some.inj h).symm
                    · refine ht_seqR hn (El := (_ :: _ :: _ :: _ :: _ :: _ :: _ :: _ :: (65, .v (.bool (f.Offset == 0))) :: (66, .v (.bool false)) :: (67, .v undef) :: (68, .v (.bool false)) :: (69, .v (.bool false)) :: (70, .v undef) :: (71, .v (.bool false)) :: (8, .v (.bool false)) :: [])) (init := [0, 1, 2, 3, 4, 5, 6, 7]) (fin := [0, 15]) (sps := [⟨[1], [], [8], [(.slot 65)]⟩, ⟨[8], [], [9], [(.slot 66)]⟩, ⟨[9], [], [10], [(.slot 67)]⟩, ⟨[9], [], [11], [(.slot 68)]⟩, ⟨[11], [], [12], [(.slot 69)]⟩, ⟨[12], [], [13], [(.slot 70)]⟩, ⟨[12], [], [14], [(.slot 71)]⟩, ⟨[14], [5], [15], [(.slot 8)]⟩]) (es' := [(_, _), (8, .v (.bool false))]) (by kernel_rfl) rfl rfl
                        ⟨st_plain rfl (op_move _ _ _ _ rfl rfl),
                          st_plain rfl (op_move _ _ _ _ (congrArg (fun b => AV.v (Value.bool b)) hg12_1) rfl),
                          st_skip 1 66 _ true rfl rfl rfl rfl (List.Mem.head _),
                          st_plain rfl (op_pick _ _ false _ rfl rfl),
                          st_plain rfl (op_move _ _ _ _ rfl rfl),
                          st_skip 4 69 _ true rfl rfl rfl rfl (List.Mem.head _),
                          st_plain rfl (op_pick _ _ false _ rfl rfl),
                          st_plain rfl (LOp.drop [_] (op_assign _ _ _ _ rfl rfl)),
                          trivial⟩ ?_
                      exact hl118 _ (Option.some.inj h).symm
                · have h := cond_f hb115 h
                  refine ht_seq ?_
                  refine ht_seqR hn (El := [_, _, _, _, _, _, _, _, (73, .v (.bool (f.Kind == 5))), (72, .v (.bool (f.Kind == 5)))]) (init := [0, 1, 2, 3, 4, 5, 6, 7]) (fin := [0, 1, 2, 3, 5, 9]) (sps := [⟨[6], [], [8], [(.slot 73)]⟩, ⟨[8], [], [9], [(.slot 72)]⟩]) (es' := [(_, _), (_, _), (_, _), (_, _), (_, _), (72, .v (.bool (f.Kind == 5)))]) (by kernel_rfl) rfl rfl
                    ⟨st_plain rfl (op_bin _ _ _ _ _ rfl rfl rfl),
                      st_plain rfl (op_assign _ _ _ _ rfl rfl),
                      trivial⟩ ?_
                  refine pt_then ?_
                  refine ht_cond _ rfl (fun hb120 => ?_) (fun hb120 => ?_)
                  · have h := cond_t hb120 h
                    refine ht_joinS h (fun (s121 : Bool) => [(1, .box 24 [.v (.int .i64 f.Kind), .v (.int .i64 f.Number), .v (.int .i64 f.Offset), .v (.int .i64 f.Seq), .fl .shr 1 (List.map (Value.int .u8) f.Data)]), (8, .v (.bool s121))]) ?_ ?_
                    · rintro s121 h
                      refine pt_inb ?_
                      exact hl97 _ (Option.some.inj h).symm
                    · intro u122 h hl123 hr124
                      refine cond_some h (fun hg14_1 h => ?_) (fun hg14_1 h => ?_)
                      · refine cond_some h (fun hg14_4 h => ?_) (fun hg14_4 h => ?_)
                        · refine ht_seqR hn (El := [_, _, _, _, _, _, (74, .v (.bool (f.Offset == 0))), (75, .v (.bool true)), (76, .v (.bool (f.Seq == 0))), (77, .v (.bool (f.Seq == 0))), (78, .v (.bool true)), (79, .v (.bool (((f.Data.length : Int) == 0)))), (80, .v (.bool (((f.Data.length : Int) == 0)))), (8, .v (.bool (((f.Data.length : Int) == 0))))]) (init := [0, 1, 2, 3, 4, 5]) (fin := [0, 13]) (sps := [⟨[1], [], [6], [(.slot 74)]⟩, ⟨[6], [], [7], [(.slot 75)]⟩, ⟨[7, 2], [], [8], [(.slot 76)]⟩, ⟨[7, 8], [], [9], [(.slot 77)]⟩, ⟨[9], [], [10], [(.slot 78)]⟩, ⟨[10, 3], [], [11], [(.slot 79)]⟩, ⟨[10, 11], [], [12], [(.slot 80)]⟩, ⟨[12], [4], [13], [(.slot 8)]⟩]) (es' := [(_, _), (8, .v (.bool (((f.Data.length : Int) == 0))))]) (by kernel_rfl) rfl rfl
                            ⟨st_plain rfl (op_move _ _ _ _ rfl rfl),
                              st_plain rfl (op_move _ _ _ _ (congrArg (fun b => AV.v (Value.bool b)) hg14_1) rfl),
                              st_run 1 75 true rfl rfl rfl (List.Mem.head _) (op_move _ _ _ _ rfl rfl),
                              st_plain rfl (op_pick _ _ true _ rfl rfl),
                              st_plain rfl (op_move _ _ _ _ (congrArg (fun b => AV.v (Value.bool b)) hg14_4) rfl),
                              st_run 4 78 true rfl rfl rfl (List.Mem.head _) (op_move _ _ _ _ rfl rfl),
                              st_plain rfl (op_pick _ _ true _ rfl rfl),
                              st_plain rfl (LOp.drop [_] (op_assign _ _ _ _ rfl rfl)),
                              trivial⟩ ?_
                          exact hl123 _ (Option.some.inj h).symm
                        · refine ht_seqR hn (El := [_, _, _, _, _, _, (74, .v (.bool (f.Offset == 0))), (75, .v (.bool true)), (76, .v (.bool (f.Seq == 0))), (77, .v (.bool (f.Seq == 0))), (78, .v (.bool false)), (79, .v undef), (80, .v (.bool false)), (8, .v (.bool false))]) (init := [0, 1, 2, 3, 4, 5]) (fin := [0, 13]) (sps := [⟨[1], [], [6], [(.slot 74)]⟩, ⟨[6], [], [7], [(.slot 75)]⟩, ⟨[7, 2], [], [8], [(.slot 76)]⟩, ⟨[7, 8], [], [9], [(.slot 77)]⟩, ⟨[9], [], [10], [(.slot 78)]⟩, ⟨[10], [], [11], [(.slot 79)]⟩, ⟨[10], [], [12], [(.slot 80)]⟩, ⟨[12], [4], [13], [(.slot 8)]⟩]) (es' := [(_, _), (8, .v (.bool false))]) (by kernel_rfl) rfl rfl
                            ⟨st_plain rfl (op_move _ _ _ _ rfl rfl),
                              st_plain rfl (op_move _ _ _ _ (congrArg (fun b => AV.v (Value.bool b)) hg14_1) rfl),
                              st_run 1 75 true rfl rfl rfl (List.Mem.head _) (op_move _ _ _ _ rfl rfl),
                              st_plain rfl (op_pick _ _ true _ rfl rfl),
                              st_plain rfl (op_move _ _ _ _ (congrArg (fun b => AV.v (Value.bool b)) hg14_4) rfl),
                              st_skip 4 78 _ true rfl rfl rfl rfl (List.Mem.head _),
                              st_plain rfl (op_pick _ _ false _ rfl rfl),
                              st_plain rfl (LOp.drop [_] (op_assign _ _ _ _ rfl rfl)),
                              trivial⟩ ?_
                          exact hl123 _ (Option.some.inj h).symm
                      · refine ht_seqR hn (El := [_, _, _, _, _, _, (74, .v (.bool (f.Offset == 0))), (75, .v (.bool false)), (76, .v undef), (77, .v (.bool false)), (78, .v (.bool false)), (79, .v undef), (80, .v (.bool false)), (8, .v (.bool false))]) (init := [0, 1, 2, 3, 4, 5]) (fin := [0, 13]) (sps := [⟨[1], [], [6], [(.slot 74)]⟩, ⟨[6], [], [7], [(.slot 75)]⟩, ⟨[7], [], [8], [(.slot 76)]⟩, ⟨[7], [], [9], [(.slot 77)]⟩, ⟨[9], [], [10], [(.slot 78)]⟩, ⟨[10], [], [11], [(.slot 79)]⟩, ⟨[10], [], [12], [(.slot 80)]⟩, ⟨[12], [4], [13], [(.slot 8)]⟩]) (es' := [(_, _), (8, .v (.bool false))]) (by kernel_rfl) rfl rfl
                          ⟨st_plain rfl (op_move _ _ _ _ rfl rfl),
                            st_plain rfl (op_move _ _ _ _ (congrArg (fun b => AV.v (Value.bool b)) hg14_1) rfl),
                            st_skip 1 75 _ true rfl rfl rfl rfl (List.Mem.head _),
                            st_plain rfl (op_pick _ _ false _ rfl rfl),
                            st_plain rfl (op_move _ _ _ _ rfl rfl),
                            st_skip 4 78 _ true rfl rfl rfl rfl (List.Mem.head _),
                            st_plain rfl (op_pick _ _ false _ rfl rfl),
                            st_plain rfl (LOp.drop [_] (op_assign _ _ _ _ rfl rfl)),
                            trivial⟩ ?_
                        exact hl123 _ (Option.some.inj h).symm
                  · have h := cond_f hb120 h
                    refine ht_skip ?_
                    refine pt_inb ?_
                    refine pt_pick [0, 4] (by kernel_rfl) (es' := [(_, _), (_, _)]) rfl ?_
                    exact hl97 _ (Option.some.inj h).symm
          · intro u101 h hl102 hr103
            refine ht_seq ?_
            refine ht_seqR hn (El := [_, _, _, _, _, _, _, _, (38, .v (.bool (f.Kind == 1))), (37, .v (.bool (f.Kind == 1)))]) (init := [0, 1, 2, 3, 4, 5, 6, 7]) (fin := [0, 1, 2, 3, 4, 5, 6, 7, 9]) (sps := [⟨[7], [], [8], [(.slot 38)]⟩, ⟨[8], [], [9], [(.slot 37)]⟩]) (es' := [(_, _), (_, _), (_, _), (_, _), (_, _), (_, _), (_, _), (_, _), (37, .v (.bool (f.Kind == 1)))]) (by kernel_rfl) rfl rfl
              ⟨st_plain rfl (op_bin _ _ _ _ _ rfl rfl rfl),
                st_plain rfl (op_assign _ _ _ _ rfl rfl),
                trivial⟩ ?_
            refine pt_then ?_
            refine ht_cond _ rfl (fun hb104 => ?_) (fun hb104 => ?_)
            · have h := cond_t hb104 h
              refine ht_skip ?_
              exact hl102 _ (Option.some.inj h).symm
            · have h := cond_f hb104 h
              refine ht_seqR hn (El := [_, _, _, _, _, _, _, _, _, (39, .v (.bool (f.Kind == 2))), (37, .v (.bool (f.Kind == 2)))]) (init := [0, 1, 2, 3, 4, 5, 6, 7, 8]) (fin := [0, 1, 2, 3, 4, 5, 6, 7, 10]) (sps := [⟨[7], [], [9], [(.slot 39)]⟩, ⟨[9], [8], [10], [(.slot 37)]⟩]) (es' := [(_, _), (_, _), (_, _), (_, _), (_, _), (_, _), (_, _), (_, _), (37, .v (.bool (f.Kind == 2)))]) (by kernel_rfl) rfl rfl
                ⟨st_plain rfl (op_bin _ _ _ _ _ rfl rfl rfl),
                  st_plain rfl (LOp.drop [_] (op_assign _ _ _ _ rfl rfl)),
                  trivial⟩ ?_
              exact hl102 _ (Option.some.inj h).symm
    · intro u6 h hl7 hr8
      refine cond_some h (fun hg3_3 h => ?_) (fun hg3_3 h => ?_)
      · refine ht_seqR hn (El := [_, _, _, _, _, (27, .ptr 1 3), (28, .v (.int .i64 f.Seq)), (29, .v (.bool ((decide (0 ≤ f.Seq))))), (30, .v (.bool true)), (31, .ptr 1 3), (32, .v (.int .i64 f.Seq)), (33, .v (.bool ((decide (f.Seq ≤ 7))))), (34, .v (.bool ((decide (f.Seq ≤ 7))))), (7, .v (.bool ((decide (f.Seq ≤ 7)))))]) (init := [0, 1, 2, 3, 4]) (fin := [0, 1, 2, 3, 4, 13]) (sps := [⟨[0], [], [5], [(.slot 27)]⟩, ⟨[5, 0], [], [6], [(.slot 28)]⟩, ⟨[6], [], [7], [(.slot 29)]⟩, ⟨[7], [], [8], [(.slot 30)]⟩, ⟨[8, 0], [], [9], [(.slot 31)]⟩, ⟨[8, 9, 0], [], [10], [(.slot 32)]⟩, ⟨[8, 10], [], [11], [(.slot 33)]⟩, ⟨[8, 11], [], [12], [(.slot 34)]⟩, ⟨[12], [], [13], [(.slot 7)]⟩]) (es' := [(_, _), (_, _), (_, _), (_, _), (_, _), (7, .v (.bool ((decide (f.Seq ≤ 7)))))]) (by kernel_rfl) rfl rfl
          ⟨st_plain rfl (op_fieldAddr _ _ _ _ 1 0 _ Try.underlying24 rfl sz3 rfl rfl (by decide)),
            st_plain rfl (op_load _ _ _ _ _ _ Try.underlying3 rfl rfl rfl (Nat.le_of_ble_eq_true rfl) rfl rfl rfl),
            st_plain rfl (op_bin _ _ _ _ _ rfl rfl rfl),
            st_plain rfl (op_move _ _ _ _ (congrArg (fun b => AV.v (Value.bool b)) hg3_3) rfl),
            st_run 3 30 true rfl rfl rfl (List.Mem.head _) (op_fieldAddr _ _ _ _ 1 0 _ Try.underlying24 rfl sz3 rfl rfl (by decide)),
            st_run 3 30 true rfl rfl rfl (List.Mem.head _) (op_load _ _ _ _ _ _ Try.underlying3 rfl rfl rfl (Nat.le_of_ble_eq_true rfl) rfl rfl rfl),
            st_run 3 30 true rfl rfl rfl (List.Mem.head _) (op_bin _ _ _ _ _ rfl rfl rfl),
            st_plain rfl (op_pick _ _ true _ rfl rfl),
            st_plain rfl (op_assign _ _ _ _ rfl rfl),
            trivial⟩ ?_
        exact hl7 _ (Option.some.inj h).symm
      · refine ht_seqR hn (El := [_, _, _, _, _, (27, .ptr 1 3), (28, .v (.int .i64 f.Seq)), (29, .v (.bool ((decide (0 ≤ f.Seq))))), (30, .v (.bool false)), (31, .v undef), (32, .v undef), (33, .v undef), (34, .v (.bool false)), (7, .v (.bool false))]) (init := [0, 1, 2, 3, 4]) (fin := [0, 1, 2, 3, 4, 13]) (sps := [⟨[0], [], [5], [(.slot 27)]⟩, ⟨[5, 0], [], [6], [(.slot 28)]⟩, ⟨[6], [], [7], [(.slot 29)]⟩, ⟨[7], [], [8], [(.slot 30)]⟩, ⟨[8], [], [9], [(.slot 31)]⟩, ⟨[8], [], [10], [(.slot 32)]⟩, ⟨[8], [], [11], [(.slot 33)]⟩, ⟨[8], [], [12], [(.slot 34)]⟩, ⟨[12], [], [13], [(.slot 7)]⟩]) (es' := [(_, _), (_, _), (_, _), (_, _), (_, _), (7, .v (.bool false))]) (by kernel_rfl) rfl rfl
          ⟨st_plain rfl (op_fieldAddr _ _ _ _ 1 0 _ Try.underlying24 rfl sz3 rfl rfl (by decide)),
            st_plain rfl (op_load _ _ _ _ _ _ Try.underlying3 rfl rfl rfl (Nat.le_of_ble_eq_true rfl) rfl rfl rfl),
            st_plain rfl (op_bin _ _ _ _ _ rfl rfl rfl),
            st_plain rfl (op_move _ _ _ _ (congrArg (fun b => AV.v (Value.bool b)) hg3_3) rfl),
            st_skip 3 30 _ true rfl rfl rfl rfl (List.Mem.head _),
            st_skip 3 30 _ true rfl rfl rfl rfl (List.Mem.head _),
            st_skip 3 30 _ true rfl rfl rfl rfl (List.Mem.head _),
            st_plain rfl (op_pick _ _ false _ rfl rfl),
            st_plain rfl (op_assign _ _ _ _ rfl rfl),
            trivial⟩ ?_
        exact hl7 _ (Option.some.inj h).symm
  · intro u2 h hl3 hr4
    refine cond_some h (fun hg2_3 h => ?_) (fun hg2_3 h => ?_)
    · refine ht_seqR hn (El := [_, _, _, _, (19, .ptr 1 2), (20, .v (.int .i64 f.Offset)), (21, .v (.bool ((decide (0 ≤ f.Offset))))), (22, .v (.bool true)), (23, .ptr 1 2), (24, .v (.int .i64 f.Offset)), (25, .v (.bool ((decide (f.Offset ≤ 5000))))), (26, .v (.bool ((decide (f.Offset ≤ 5000))))), (6, .v (.bool ((decide (f.Offset ≤ 5000)))))]) (init := [0, 1, 2, 3]) (fin := [0, 1, 2, 3, 12]) (sps := [⟨[0], [], [4], [(.slot 19)]⟩, ⟨[4, 0], [], [5], [(.slot 20)]⟩, ⟨[5], [], [6], [(.slot 21)]⟩, ⟨[6], [], [7], [(.slot 22)]⟩, ⟨[7, 0], [], [8], [(.slot 23)]⟩, ⟨[7, 8, 0], [], [9], [(.slot 24)]⟩, ⟨[7, 9], [], [10], [(.slot 25)]⟩, ⟨[7, 10], [], [11], [(.slot 26)]⟩, ⟨[11], [], [12], [(.slot 6)]⟩]) (es' := [(_, _), (_, _), (_, _), (_, _), (6, .v (.bool ((decide (f.Offset ≤ 5000)))))]) (by kernel_rfl) rfl rfl
        ⟨st_plain rfl (op_fieldAddr _ _ _ _ 1 0 _ Try.underlying24 rfl sz3 rfl rfl (by decide)),
          st_plain rfl (op_load _ _ _ _ _ _ Try.underlying3 rfl rfl rfl (Nat.le_of_ble_eq_true rfl) rfl rfl rfl),
          st_plain rfl (op_bin _ _ _ _ _ rfl rfl rfl),
          st_plain rfl (op_move _ _ _ _ (congrArg (fun b => AV.v (Value.bool b)) hg2_3) rfl),
          st_run 3 22 true rfl rfl rfl (List.Mem.head _) (op_fieldAddr _ _ _ _ 1 0 _ Try.underlying24 rfl sz3 rfl rfl (by decide)),
          st_run 3 22 true rfl rfl rfl (List.Mem.head _) (op_load _ _ _ _ _ _ Try.underlying3 rfl rfl rfl (Nat.le_of_ble_eq_true rfl) rfl rfl rfl),
          st_run 3 22 true rfl rfl rfl (List.Mem.head _) (op_bin _ _ _ _ _ rfl rfl rfl),
          st_plain rfl (op_pick _ _ true _ rfl rfl),
          st_plain rfl (op_assign _ _ _ _ rfl rfl),
          trivial⟩ ?_
      exact hl3 _ (Option.some.inj h).symm
    · refine ht_seqR hn (El := [_, _, _, _, (19, .ptr 1 2), (20, .v (.int .i64 f.Offset)), (21, .v (.bool ((decide (0 ≤ f.Offset))))), (22, .v (.bool false)), (23, .v undef), (24, .v undef), (25, .v undef), (26, .v (.bool false)), (6, .v (.bool false))]) (init := [0, 1, 2, 3]) (fin := [0, 1, 2, 3, 12]) (sps := [⟨[0], [], [4], [(.slot 19)]⟩, ⟨[4, 0], [], [5], [(.slot 20)]⟩, ⟨[5], [], [6], [(.slot 21)]⟩, ⟨[6], [], [7], [(.slot 22)]⟩, ⟨[7], [], [8], [(.slot 23)]⟩, ⟨[7], [], [9], [(.slot 24)]⟩, ⟨[7], [], [10], [(.slot 25)]⟩, ⟨[7], [], [11], [(.slot 26)]⟩, ⟨[11], [], [12], [(.slot 6)]⟩]) (es' := [(_, _), (_, _), (_, _), (_, _), (6, .v (.bool false))]) (by kernel_rfl) rfl rfl
        ⟨st_plain rfl (op_fieldAddr _ _ _ _ 1 0 _ Try.underlying24 rfl sz3 rfl rfl (by decide)),
          st_plain rfl (op_load _ _ _ _ _ _ Try.underlying3 rfl rfl rfl (Nat.le_of_ble_eq_true rfl) rfl rfl rfl),
          st_plain rfl (op_bin _ _ _ _ _ rfl rfl rfl),
          st_plain rfl (op_move _ _ _ _ (congrArg (fun b => AV.v (Value.bool b)) hg2_3) rfl),
          st_skip 3 22 _ true rfl rfl rfl rfl (List.Mem.head _),
          st_skip 3 22 _ true rfl rfl rfl rfl (List.Mem.head _),
          st_skip 3 22 _ true rfl rfl rfl rfl (List.Mem.head _),
          st_plain rfl (op_pick _ _ false _ rfl rfl),
          st_plain rfl (op_assign _ _ _ _ rfl rfl),
          trivial⟩ ?_
      exact hl3 _ (Option.some.inj h).symm

set_option maxHeartbeats 1000000 in
theorem ok_sums_table (divisor : Int) (r : (List Int)) (h : Sh.sums_table divisor = some r) : FnOK Try.prog 29 [.v (.int .u32 divisor)] (.v (.agg (List.map (Value.int .u32) r).toArray)) := by
  unfold Sh.sums_table at h
  refine fn_ok Try.func29 rfl (Nat.le_of_ble_eq_true rfl) rfl rfl fun g0 hn hio => ?_
  refine ht_seq ?_
  refine ht_seqR hn (El := [_, (2, .arr 53 (List.map (Value.int .u32) ((List.replicate 16 (0 : Int)))))]) (init := [0]) (fin := [0, 1]) (sps := [⟨[], [], [1], [(.slot 2)]⟩]) (es' := [(_, _), (2, .arr 53 (List.map (Value.int .u32) ((List.replicate 16 (0 : Int)))))]) (by kernel_rfl) rfl rfl
    ⟨st_plain rfl (op_alloc_arr _ za53),
      trivial⟩ ?_
  refine pt_then ?_
  refine ht_seq ?_
  refine ht_seqR hn (El := [_, _, (3, .arr 53 (List.map (Value.int .u32) ((List.replicate 16 (0 : Int)))))]) (init := [0, 1]) (fin := [0, 1, 2]) (sps := [⟨[], [], [2], [(.slot 3)]⟩]) (es' := [(_, _), (_, _), (3, .arr 53 (List.map (Value.int .u32) ((List.replicate 16 (0 : Int)))))]) (by kernel_rfl) rfl rfl
    ⟨st_plain rfl (op_alloc_arr _ za53),
      trivial⟩ ?_
  refine pt_then ?_
  refine ht_seq ?_
  refine ht_seq ?_
  refine ht_seqR hn (El := [_, _, _, (7, .v (.int .i64 0))]) (init := [0, 1, 2]) (fin := [0, 1, 2, 3]) (sps := [⟨[], [], [3], [(.slot 7)]⟩]) (es' := [(_, _), (_, _), (_, _), (7, .v (.int .i64 0))]) (by kernel_rfl) rfl rfl
    ⟨st_plain rfl (op_move _ _ _ _ rfl rfl),
      trivial⟩ ?_
  refine pt_then ?_
  refine ht_loopS h (fun ((s91, s92) : (List Int) × Int) => [(0, .v (.int .u32 divisor)), (2, .arr 53 (List.map (Value.int .u32) ((List.replicate 16 (0 : Int))))), (3, .arr 53 (List.map (Value.int .u32) s91)), (7, .v (.int .i64 s92))]) (fun (s133 : (List Int)) => [(2, .arr 53 (List.map (Value.int .u32) ((List.replicate 16 (0 : Int))))), (3, .arr 53 (List.map (Value.int .u32) s133))]) ?_ ?_
  · rintro s133 h
    refine pt_then ?_
    refine ht_seq ?_
    obtain ⟨v180, hv180, h⟩ := bind_some h
    obtain ⟨v181, hv181, h⟩ := bind_some h
    obtain ⟨v182, hv182, h⟩ := bind_some h
    refine ht_seqR hn (El := [_, _, (28, .v (.agg (List.map (Value.int .u32) s133).toArray)), (2, .arr 53 (List.map (Value.int .u32) s133))]) (init := [0, 1]) (fin := [3]) (sps := [⟨[1], [], [2], [(.slot 28)]⟩, ⟨[2], [0], [3], []⟩]) (es' := [(2, .arr 53 (List.map (Value.int .u32) s133))]) (by kernel_rfl) rfl rfl
      ⟨st_plain rfl (op_loadA_arr _ _ _ _ Try.underlying53 rfl (sz53.trans (congrArg some (ln_len hv180))) rfl rfl),
        st_plain rfl (op_storeA_arr _ _ _ _ (sz53.trans (congrArg some (ln_len hv182))) rfl rfl (ln_ones (fun _ => rfl) _) ((ln_len (f := Value.int .u32) hv181).symm.trans (ln_len (f := Value.int .u32) hv182))),
        trivial⟩ ?_
    refine pt_then ?_
    refine ht_ret ?_
    obtain ⟨v183, hv183, h⟩ := bind_some h
    obtain rfl := Option.some.inj h
    exact pt_ret hio rfl (.cellR _ _ _ _ Try.underlying53 rfl (sz53.trans (congrArg some (ln_len hv183))) .nil) rfl rfl
  · rintro u134 hl135 hr136 ⟨s91, s92⟩ rr139 h ho137
    refine ht_seq ?_
    refine ht_seqR hn (El := [_, _, _, _, (8, .v (.bool ((decide (s92 < 16)))))]) (init := [0, 1, 2, 3]) (fin := [0, 1, 2, 3, 4]) (sps := [⟨[3], [], [4], [(.slot 8)]⟩]) (es' := [(_, _), (_, _), (_, _), (_, _), (8, .v (.bool ((decide (s92 < 16)))))]) (by kernel_rfl) rfl rfl
      ⟨st_plain rfl (op_bin _ _ _ _ _ rfl rfl rfl),
        trivial⟩ ?_
    refine pt_then ?_
    refine ht_seq ?_
    refine ht_cond _ rfl (fun hb140 => ?_) (fun hb140 => ?_)
    · have h := cond_t hb140 h
      refine ht_skip ?_
      refine pt_then ?_
      refine ht_seq ?_
      refine ht_block ?_
      refine ht_seq ?_
      refine ht_seqR hn (El := [_, _, _, _, _, (9, .v (.int .i64 s92)), (4, .v (.int .i64 s92))]) (init := [0, 1, 2, 3, 4]) (fin := [0, 1, 2, 3, 6]) (sps := [⟨[3], [], [5], [(.slot 9)]⟩, ⟨[5], [], [6], [(.slot 4)]⟩]) (es' := [(_, _), (_, _), (_, _), (_, _), (4, .v (.int .i64 s92))]) (by kernel_rfl) rfl rfl
        ⟨st_plain rfl (op_move _ _ _ _ rfl rfl),
          st_plain rfl (op_assign _ _ _ _ rfl rfl),
          trivial⟩ ?_
      refine pt_then ?_
      refine ht_seq ?_
      obtain ⟨v2, hv2, h⟩ := bind_some h
      refine ht_seqR hn (El := [_, _, _, _, _, (10, .v (.int .i64 s92)), (11, .v (.int .u32 v2)), (5, .v (.int .u32 v2))]) (init := [0, 1, 2, 3, 4]) (fin := [0, 1, 2, 3, 4, 7]) (sps := [⟨[4], [], [5], [(.slot 10)]⟩, ⟨[5], [], [6], [(.slot 11)]⟩, ⟨[6], [], [7], [(.slot 5)]⟩]) (es' := [(_, _), (_, _), (_, _), (_, _), (_, _), (5, .v (.int .u32 v2))]) (by kernel_rfl) rfl rfl
        ⟨st_plain rfl (op_move _ _ _ _ rfl rfl),
          st_plain rfl ((Option.some.inj hv2) ▸ op_conv _ _ _ Try.underlying3 Try.underlying51 rfl),
          st_plain rfl (op_assign _ _ _ _ rfl rfl),
          trivial⟩ ?_
      refine pt_then ?_
      refine ht_seq ?_
      refine ht_seq ?_
      refine ht_seqR hn (El := [_, _, _, _, _, _, (12, .v (.int .i64 0))]) (init := [0, 1, 2, 3, 4, 5]) (fin := [0, 1, 2, 3, 4, 5, 6]) (sps := [⟨[], [], [6], [(.slot 12)]⟩]) (es' := [(_, _), (_, _), (_, _), (_, _), (_, _), (_, _), (12, .v (.int .i64 0))]) (by kernel_rfl) rfl rfl
        ⟨st_plain rfl (op_move _ _ _ _ rfl rfl),
          trivial⟩ ?_
      refine pt_then ?_
      refine ht_loopS h (fun ((s157, s158) : Int × Int) => [(0, .v (.int .u32 divisor)), (2, .arr 53 (List.map (Value.int .u32) ((List.replicate 16 (0 : Int))))), (3, .arr 53 (List.map (Value.int .u32) s91)), (7, .v (.int .i64 s92)), (4, .v (.int .i64 s92)), (5, .v (.int .u32 s157)), (12, .v (.int .i64 s158))]) (fun (s166 : Int) => [(0, .v (.int .u32 divisor)), (2, .arr 53 (List.map (Value.int .u32) ((List.replicate 16 (0 : Int))))), (3, .arr 53 (List.map (Value.int .u32) s91)), (7, .v (.int .i64 s92)), (4, .v (.int .i64 s92)), (5, .v (.int .u32 s166))]) ?_ ?_
      · rintro s166 h
        refine pt_then ?_
        obtain ⟨v46, hv46, h⟩ := bind_some h
        obtain ⟨v47, hv47, h⟩ := bind_some h
        refine ht_seqR hn (El := [_, _, _, _, _, _, (24, .v (.int .i64 s92)), (25, .v (.int .u32 s166)), (26, .ptr 3 v46), (3, .arr 53 (List.map (Value.int .u32) v47))]) (init := [0, 1, 2, 3, 4, 5]) (fin := [0, 1, 9, 3]) (sps := [⟨[4], [], [6], [(.slot 24)]⟩, ⟨[5], [], [7], [(.slot 25)]⟩, ⟨[2, 6], [], [8], [(.slot 26)]⟩, ⟨[8, 7], [2], [9], []⟩]) (es' := [(_, _), (_, _), (3, .arr 53 (List.map (Value.int .u32) v47)), (_, _)]) (by kernel_rfl) rfl rfl
          ⟨st_plain rfl (op_move _ _ _ _ rfl rfl),
            st_plain rfl (op_move _ _ _ _ rfl rfl),
            st_plain rfl (op_ix_arr _ _ _ _ 16 3 _ Try.underlying53 sz51 rfl rfl (ix_ok hv46).1 (ix_ok hv46).2 (by decide)),
            st_plain rfl (op_store_arr _ _ _ _ _ _ sz51 rfl rfl rfl rfl (set_lt hv47) (set_eq (f := Value.int .u32) hv47)),
            trivial⟩ ?_
        refine pt_inb ?_
        refine pt_then ?_
        obtain ⟨v48, hv48, h⟩ := bind_some h
        refine ht_seqR hn (El := [_, _, _, _, (27, .v (.int .i64 v48)), (7, .v (.int .i64 v48))]) (init := [0, 1, 2, 3]) (fin := [0, 1, 2, 5]) (sps := [⟨[3], [], [4], [(.slot 27)]⟩, ⟨[4], [3], [5], [(.slot 7)]⟩]) (es' := [(_, _), (_, _), (_, _), (7, .v (.int .i64 v48))]) (by kernel_rfl) rfl rfl
          ⟨st_plain rfl (op_bin _ _ _ _ _ rfl rfl (ibind (f := Value.int .i64) (Option.some.inj hv48))),
            st_plain rfl (LOp.drop [_] (op_move _ _ _ _ rfl rfl)),
            trivial⟩ ?_
        exact pt_next _ (Option.some.inj h).symm rfl
      · rintro u167 hl168 hr169 ⟨s157, s158⟩ rr172 h ho170
        refine ht_seq ?_
        refine ht_seqR hn (El := [_, _, _, _, _, _, _, (13, .v (.bool ((decide (s158 < 4)))))]) (init := [0, 1, 2, 3, 4, 5, 6]) (fin := [0, 1, 2, 3, 4, 5, 6, 7]) (sps := [⟨[6], [], [7], [(.slot 13)]⟩]) (es' := [(_, _), (_, _), (_, _), (_, _), (_, _), (_, _), (_, _), (13, .v (.bool ((decide (s158 < 4)))))]) (by kernel_rfl) rfl rfl
          ⟨st_plain rfl (op_bin _ _ _ _ _ rfl rfl rfl),
            trivial⟩ ?_
        refine pt_then ?_
        refine ht_seq ?_
        refine ht_cond _ rfl (fun hb173 => ?_) (fun hb173 => ?_)
        · have h := cond_t hb173 h
          refine ht_skip ?_
          refine pt_then ?_
          refine ht_seq ?_
          refine ht_joinS h (fun (s175 : Int) => [(0, .v (.int .u32 divisor)), (2, .arr 53 (List.map (Value.int .u32) ((List.replicate 16 (0 : Int))))), (3, .arr 53 (List.map (Value.int .u32) s91)), (7, .v (.int .i64 s92)), (4, .v (.int .i64 s92)), (12, .v (.int .i64 s158)), (5, .v (.int .u32 s175))]) ?_ ?_
          · rintro s175 h
            refine pt_then ?_
            obtain ⟨v13, hv13, h⟩ := bind_some h
            refine ht_seqR hn (El := [_, _, _, _, _, _, _, (23, .v (.int .i64 v13)), (12, .v (.int .i64 v13))]) (init := [0, 1, 2, 3, 4, 5, 6]) (fin := [0, 1, 2, 3, 4, 6, 8]) (sps := [⟨[5], [], [7], [(.slot 23)]⟩, ⟨[7], [5], [8], [(.slot 12)]⟩]) (es' := [(_, _), (_, _), (_, _), (_, _), (_, _), (_, _), (12, .v (.int .i64 v13))]) (by kernel_rfl) rfl rfl
              ⟨st_plain rfl (op_bin _ _ _ _ _ rfl rfl (ibind (f := Value.int .i64) (Option.some.inj hv13))),
                st_plain rfl (LOp.drop [_] (op_move _ _ _ _ rfl rfl)),
                trivial⟩ ?_
            exact pt_next _ (Option.some.inj h).symm rfl
          · intro u176 h hl177 hr178
            refine ht_block ?_
            refine ht_seq ?_
            obtain ⟨v4, hv4, h⟩ := bind_some h
            refine ht_seqR hn (El := [_, _, _, _, _, _, _, _, (14, .v (.int .u32 s157)), (15, .v (.int .u32 v4)), (6, .v (.int .u32 v4))]) (init := [0, 1, 2, 3, 4, 5, 6, 7]) (fin := [0, 1, 2, 3, 4, 5, 6, 10]) (sps := [⟨[5], [], [8], [(.slot 14)]⟩, ⟨[8], [], [9], [(.slot 15)]⟩, ⟨[9], [], [10], [(.slot 6)]⟩]) (es' := [(_, _), (_, _), (_, _), (_, _), (_, _), (_, _), (_, _), (6, .v (.int .u32 v4))]) (by kernel_rfl) rfl rfl
              ⟨st_plain rfl (op_move _ _ _ _ rfl rfl),
                st_plain rfl (op_bin _ _ _ _ _ rfl rfl (ibind (f := Value.int .u32) (Option.some.inj hv4))),
                st_plain rfl (op_assign _ _ _ _ rfl rfl),
                trivial⟩ ?_
            refine pt_then ?_
            refine ht_seq ?_
            obtain ⟨v5, hv5, h⟩ := bind_some h
            refine ht_seqR hn (El := [_, _, _, _, _, _, _, _, (16, .v (.int .u32 s157)), (17, .v (.int .u32 v5)), (5, .v (.int .u32 v5))]) (init := [0, 1, 2, 3, 4, 5, 6, 7]) (fin := [0, 1, 2, 3, 4, 6, 7, 10]) (sps := [⟨[5], [], [8], [(.slot 16)]⟩, ⟨[8], [], [9], [(.slot 17)]⟩, ⟨[9], [5], [10], [(.slot 5)]⟩]) (es' := [(_, _), (_, _), (_, _), (_, _), (_, _), (_, _), (_, _), (5, .v (.int .u32 v5))]) (by kernel_rfl) rfl rfl
              ⟨st_plain rfl (op_move _ _ _ _ rfl rfl),
                st_plain rfl (op_bin _ _ _ _ _ rfl rfl (shr_ok hv5)),
                st_plain rfl (LOp.drop [_] (op_assign _ _ _ _ rfl rfl)),
                trivial⟩ ?_
            refine pt_then ?_
            refine ht_seq ?_
            refine ht_seqR hn (El := [_, _, _, _, _, _, _, _, (18, .v (.int .u32 v4)), (19, .v (.bool (v4 == 1)))]) (init := [0, 1, 2, 3, 4, 5, 6, 7]) (fin := [0, 1, 2, 3, 4, 5, 7, 9]) (sps := [⟨[6], [], [8], [(.slot 18)]⟩, ⟨[8], [], [9], [(.slot 19)]⟩]) (es' := [(_, _), (_, _), (_, _), (_, _), (_, _), (_, _), (_, _), (19, .v (.bool (v4 == 1)))]) (by kernel_rfl) rfl rfl
              ⟨st_plain rfl (op_move _ _ _ _ rfl rfl),
                st_plain rfl (op_bin _ _ _ _ _ rfl rfl rfl),
                trivial⟩ ?_
            refine pt_then ?_
            refine ht_cond _ rfl (fun hb179 => ?_) (fun hb179 => ?_)
            · have h := cond_t hb179 h
              obtain ⟨v7, hv7, h⟩ := bind_some h
              refine ht_seqR hn (El := [_, _, _, _, _, _, _, _, (20, .v (.int .u32 v5)), (21, .v (.int .u32 divisor)), (22, .v (.int .u32 v7)), (5, .v (.int .u32 v7))]) (init := [0, 1, 2, 3, 4, 5, 6, 7]) (fin := [0, 1, 2, 3, 4, 5, 11]) (sps := [⟨[6], [], [8], [(.slot 20)]⟩, ⟨[0], [], [9], [(.slot 21)]⟩, ⟨[8, 9], [], [10], [(.slot 22)]⟩, ⟨[10], [6], [11], [(.slot 5)]⟩]) (es' := [(_, _), (_, _), (_, _), (_, _), (_, _), (_, _), (5, .v (.int .u32 v7))]) (by kernel_rfl) rfl rfl
                ⟨st_plain rfl (op_move _ _ _ _ rfl rfl),
                  st_plain rfl (op_move _ _ _ _ rfl rfl),
                  st_plain rfl (op_bin _ _ _ _ _ rfl rfl (ibind (f := Value.int .u32) (Option.some.inj hv7))),
                  st_plain rfl (LOp.drop [_] (op_assign _ _ _ _ rfl rfl)),
                  trivial⟩ ?_
              refine pt_inb ?_
              exact hl177 _ (Option.some.inj h).symm
            · have h := cond_f hb179 h
              refine ht_skip ?_
              refine pt_inb ?_
              refine pt_pick [0, 1, 2, 3, 4, 5, 6] (by kernel_rfl) (es' := [(_, _), (_, _), (_, _), (_, _), (_, _), (_, _), (_, _)]) rfl ?_
              exact hl177 _ (Option.some.inj h).symm
        · have h := cond_f hb173 h
          refine ht_exit ?_
          refine pt_x_then ?_
          refine pt_x_then ?_
          refine pt_x_in ?_
          refine pt_pick [0, 1, 2, 3, 4, 5] (by kernel_rfl) (es' := [(_, _), (_, _), (_, _), (_, _), (_, _), (_, _)]) rfl ?_
          exact hl168 _ (ho170 _ (Option.some.inj h).symm).symm
    · have h := cond_f hb140 h
      refine ht_exit ?_
      refine pt_x_then ?_
      refine pt_x_then ?_
      refine pt_x_in ?_
      refine pt_pick [1, 2] (by kernel_rfl) (es' := [(_, _), (_, _)]) rfl ?_
      exact hl135 _ (ho137 _ (Option.some.inj h).symm).symm

set_option maxHeartbeats 1000000 in
theorem ok_sums_sum (b : (List Int)) (width : Int) (divisor : Int) (r : Int) (h : Sh.sums_sum b width divisor = some r) : FnOK Try.prog 27 [.fl .shr 1 (List.map (Value.int .u8) b), .v (.int .i64 width), .v (.int .u32 divisor)] (.v (.int .i64 r)) := by
  unfold Sh.sums_sum at h
  refine fn_ok Try.func27 rfl (Nat.le_of_ble_eq_true rfl) rfl rfl fun g0 hn hio => ?_
  refine ht_seq ?_
  refine ht_seqR hn (El := [_, _, _, (6, .v (.int .i64 0))]) (init := [0, 1, 2]) (fin := [0, 1, 2]) (sps := [⟨[], [], [3], [(.slot 6)]⟩]) (es' := [(_, _), (_, _), (_, _)]) (by kernel_rfl) rfl rfl
    ⟨st_plain rfl (op_assign _ _ _ _ rfl rfl),
      trivial⟩ ?_
  refine pt_then ?_
  refine ht_seq ?_
  obtain ⟨v1, hv1, h⟩ := bind_some h
  obtain ⟨v2, hv2, h⟩ := bind_some h
  obtain ⟨v3, hv3, h⟩ := bind_some h
  refine ht_seqR hn (El := [_, _, _, (12, .v (.int .u32 divisor)), (13, .v (.agg (List.map (Value.int .u32) v1).toArray)), (7, .arr 53 (List.map (Value.int .u32) ((List.replicate 16 (0 : Int))))), (7, .arr 53 (List.map (Value.int .u32) v1))]) (init := [0, 1, 2]) (fin := [0, 1, 6]) (sps := [⟨[2], [], [3], [(.slot 12)]⟩, ⟨[3], [], [4], [(.slot 13)]⟩, ⟨[], [], [5], [(.slot 7)]⟩, ⟨[4], [5], [6], []⟩]) (es' := [(_, _), (_, _), (7, .arr 53 (List.map (Value.int .u32) v1))]) (by kernel_rfl) rfl rfl
    ⟨st_plain rfl (op_move _ _ _ _ rfl rfl),
      st_plain rfl (op_call _ _ 29 _ _ rfl Try.call29 rfl (ok_sums_table divisor _ hv1) rfl rfl),
      st_plain rfl (op_alloc_arr _ za53),
      st_plain rfl (op_storeA_arr _ _ _ _ (sz53.trans (congrArg some (ln_len hv3))) rfl rfl (ln_ones (fun _ => rfl) _) ((ln_len (f := Value.int .u32) hv2).symm.trans (ln_len (f := Value.int .u32) hv3))),
      trivial⟩ ?_
  refine pt_then ?_
  refine ht_seq ?_
  obtain ⟨v4, hv4, h⟩ := bind_some h
  obtain ⟨v5, hv5, h⟩ := bind_some h
  refine ht_seqR hn (El := [_, _, _, (14, .v (.int .i64 width)), (15, .v (.int .u32 v4)), (16, .v (.int .u32 v5)), (8, .v (.int .u32 v5))]) (init := [0, 1, 2]) (fin := [0, 2, 6]) (sps := [⟨[1], [], [3], [(.slot 14)]⟩, ⟨[3], [], [4], [(.slot 15)]⟩, ⟨[4], [], [5], [(.slot 16)]⟩, ⟨[5], [], [6], [(.slot 8)]⟩]) (es' := [(_, _), (_, _), (8, .v (.int .u32 v5))]) (by kernel_rfl) rfl rfl
    ⟨st_plain rfl (op_move _ _ _ _ rfl rfl),
      st_plain rfl (op_bin _ _ _ _ _ rfl rfl (shl_ok hv4)),
      st_plain rfl (op_bin _ _ _ _ _ rfl rfl (ibind (f := Value.int .u32) (Option.some.inj hv5))),
      st_plain rfl (op_assign _ _ _ _ rfl rfl),
      trivial⟩ ?_
  refine pt_then ?_
  refine ht_seq ?_
  refine ht_seqR hn (El := [_, _, _, (17, .v (.int .u32 v5)), (9, .v (.int .u32 v5))]) (init := [0, 1, 2]) (fin := [0, 1, 2, 4]) (sps := [⟨[2], [], [3], [(.slot 17)]⟩, ⟨[3], [], [4], [(.slot 9)]⟩]) (es' := [(_, _), (_, _), (_, _), (9, .v (.int .u32 v5))]) (by kernel_rfl) rfl rfl
    ⟨st_plain rfl (op_move _ _ _ _ rfl rfl),
      st_plain rfl (op_assign _ _ _ _ rfl rfl),
      trivial⟩ ?_
  refine pt_then ?_
  refine ht_seq ?_
  refine ht_seq ?_
  refine ht_seqR hn (El := [_, _, _, _, (18, .fl .shr 1 (List.map (Value.int .u8) b)), (19, .v (.int .i64 (b.length : Int))), (20, .v (.int .i64 0))]) (init := [0, 1, 2, 3]) (fin := [1, 2, 3, 4, 5, 6]) (sps := [⟨[0], [], [4], [(.slot 18)]⟩, ⟨[4], [], [5], [(.slot 19)]⟩, ⟨[], [], [6], [(.slot 20)]⟩]) (es' := [(_, _), (_, _), (_, _), (18, .fl .shr 1 (List.map (Value.int .u8) b)), (19, .v (.int .i64 (b.length : Int))), (20, .v (.int .i64 0))]) (by kernel_rfl) rfl rfl
    ⟨st_plain rfl (op_move _ _ _ _ rfl rfl),
      st_plain rfl (op_len_fl _ _ _ Try.underlying22 rfl (by decide) (map_len _)),
      st_plain rfl (op_move _ _ _ _ rfl rfl),
      trivial⟩ ?_
  refine pt_then ?_
  refine ht_loopS h (fun ((s25, s26) : Int × Int) => [(7, .arr 53 (List.map (Value.int .u32) v1)), (8, .v (.int .u32 v5)), (9, .v (.int .u32 s25)), (18, .fl .shr 1 (List.map (Value.int .u8) b)), (19, .v (.int .i64 (b.length : Int))), (20, .v (.int .i64 s26))]) (fun (s28 : Int) => [(8, .v (.int .u32 v5)), (9, .v (.int .u32 s28))]) ?_ ?_
  · rintro s28 h
    refine pt_then ?_
    refine ht_seq ?_
    obtain ⟨v36, hv36, h⟩ := bind_some h
    obtain ⟨v37, hv37, h⟩ := bind_some h
    refine ht_seqR hn (El := [_, _, (43, .v (.int .u32 s28)), (44, .v (.int .u32 v5)), (45, .v (.int .u32 v36)), (46, .v (.int .i64 v37)), (6, .v (.int .i64 v37))]) (init := [0, 1]) (fin := [6]) (sps := [⟨[1], [], [2], [(.slot 43)]⟩, ⟨[0], [], [3], [(.slot 44)]⟩, ⟨[2, 3], [], [4], [(.slot 45)]⟩, ⟨[4], [], [5], [(.slot 46)]⟩, ⟨[5], [], [6], [(.slot 6)]⟩]) (es' := [(6, .v (.int .i64 v37))]) (by kernel_rfl) rfl rfl
      ⟨st_plain rfl (op_move _ _ _ _ rfl rfl),
        st_plain rfl (op_move _ _ _ _ rfl rfl),
        st_plain rfl (op_bin _ _ _ _ _ rfl rfl (ibind (f := Value.int .u32) (Option.some.inj hv36))),
        st_plain rfl ((Option.some.inj hv37) ▸ op_conv _ _ _ Try.underlying51 Try.underlying3 rfl),
        st_plain rfl (op_assign _ _ _ _ rfl rfl),
        trivial⟩ ?_
    refine pt_then ?_
    refine ht_ret ?_
    obtain rfl := Option.some.inj h
    exact pt_ret hio rfl (.tmp _ _ .nil) rfl rfl
  · rintro u29 hl30 hr31 ⟨s25, s26⟩ rr34 h ho32
    refine ht_seq ?_
    refine ht_seqR hn (El := [_, _, _, _, _, _, (21, .v (.bool ((decide (s26 < (b.length : Int))))))]) (init := [0, 1, 2, 3, 4, 5]) (fin := [0, 1, 2, 3, 4, 5, 6]) (sps := [⟨[5, 4], [], [6], [(.slot 21)]⟩]) (es' := [(_, _), (_, _), (_, _), (_, _), (_, _), (_, _), (21, .v (.bool ((decide (s26 < (b.length : Int))))))]) (by kernel_rfl) rfl rfl
      ⟨st_plain rfl (op_bin _ _ _ _ _ rfl rfl rfl),
        trivial⟩ ?_
    refine pt_then ?_
    refine ht_seq ?_
    refine ht_cond _ rfl (fun hb35 => ?_) (fun hb35 => ?_)
    · have h := cond_t hb35 h
      refine ht_skip ?_
      refine pt_then ?_
      refine ht_seq ?_
      refine ht_block ?_
      refine ht_seq ?_
      obtain ⟨v7, hv7, h⟩ := bind_some h
      obtain ⟨v8, hv8, h⟩ := bind_some h
      refine ht_seqR hn (El := [_, _, _, _, _, _, _, (22, .eref (.slot 18) (v7 * 1)), (23, .v (.int .u8 v8)), (11, .v (.int .u8 v8))]) (init := [0, 1, 2, 3, 4, 5, 6]) (fin := [0, 1, 2, 3, 4, 5, 9]) (sps := [⟨[3, 5], [], [7], [(.slot 22)]⟩, ⟨[7, 3], [], [8], [(.slot 23)]⟩, ⟨[8], [], [9], [(.slot 11)]⟩]) (es' := [(_, _), (_, _), (_, _), (_, _), (_, _), (_, _), (11, .v (.int .u8 v8))]) (by kernel_rfl) rfl rfl
        ⟨st_plain rfl (op_ix _ _ _ _ _ _ _ _ Try.underlying22 sz5 (by decide) rfl rfl rfl (ix_ok hv7).1 (map_lt (ix_ok hv7).2) rfl),
          st_plain rfl (op_load_e _ _ _ _ _ _ Try.underlying5 rfl rfl rfl (map_get hv8)),
          st_plain rfl (op_assign _ _ _ _ rfl rfl),
          trivial⟩ ?_
      refine pt_then ?_
      refine ht_seq ?_
      obtain ⟨v9, hv9, h⟩ := bind_some h
      obtain ⟨v10, hv10, h⟩ := bind_some h
      refine ht_seqR hn (El := [_, _, _, _, _, _, _, (24, .v (.int .u32 s25)), (25, .v (.int .u8 v8)), (26, .v (.int .u32 v9)), (27, .v (.int .u32 v10)), (9, .v (.int .u32 v10))]) (init := [0, 1, 2, 3, 4, 5, 6]) (fin := [0, 1, 3, 4, 5, 11]) (sps := [⟨[2], [], [7], [(.slot 24)]⟩, ⟨[6], [], [8], [(.slot 25)]⟩, ⟨[8], [], [9], [(.slot 26)]⟩, ⟨[7, 9], [], [10], [(.slot 27)]⟩, ⟨[10], [2], [11], [(.slot 9)]⟩]) (es' := [(_, _), (_, _), (_, _), (_, _), (_, _), (9, .v (.int .u32 v10))]) (by kernel_rfl) rfl rfl
        ⟨st_plain rfl (op_move _ _ _ _ rfl rfl),
          st_plain rfl (op_move _ _ _ _ rfl rfl),
          st_plain rfl ((Option.some.inj hv9) ▸ op_conv _ _ _ Try.underlying5 Try.underlying51 rfl),
          st_plain rfl (op_bin _ _ _ _ _ rfl rfl (ibind (f := Value.int .u32) (Option.some.inj hv10))),
          st_plain rfl (LOp.drop [_] (op_assign _ _ _ _ rfl rfl)),
          trivial⟩ ?_
      refine pt_then ?_
      refine ht_seq ?_
      obtain ⟨v11, hv11, h⟩ := bind_some h
      obtain ⟨v12, hv12, h⟩ := bind_some h
      obtain ⟨v13, hv13, h⟩ := bind_some h
      obtain ⟨v14, hv14, h⟩ := bind_some h
      obtain ⟨v15, hv15, h⟩ := bind_some h
      refine ht_seqR hn (El := [_, _, _, _, _, _, (28, .v (.int .u32 v10)), (29, .v (.int .u32 v11)), (30, .v (.int .u32 v10)), (31, .v (.int .u32 v12)), (32, .ptr 7 v13), (33, .v (.int .u32 v14)), (34, .v (.int .u32 v15)), (9, .v (.int .u32 v15))]) (init := [0, 1, 2, 3, 4, 5]) (fin := [0, 1, 2, 3, 4, 13]) (sps := [⟨[5], [], [6], [(.slot 28)]⟩, ⟨[6], [], [7], [(.slot 29)]⟩, ⟨[5], [], [8], [(.slot 30)]⟩, ⟨[8], [], [9], [(.slot 31)]⟩, ⟨[0, 9], [], [10], [(.slot 32)]⟩, ⟨[10, 0], [], [11], [(.slot 33)]⟩, ⟨[7, 11], [], [12], [(.slot 34)]⟩, ⟨[12], [5], [13], [(.slot 9)]⟩]) (es' := [(_, _), (_, _), (_, _), (_, _), (_, _), (9, .v (.int .u32 v15))]) (by kernel_rfl) rfl rfl
        ⟨st_plain rfl (op_move _ _ _ _ rfl rfl),
          st_plain rfl (op_bin _ _ _ _ _ rfl rfl (shr_ok hv11)),
          st_plain rfl (op_move _ _ _ _ rfl rfl),
          st_plain rfl (op_bin _ _ _ _ _ rfl rfl (rem_ok hv12)),
          st_plain rfl (op_ix_arr _ _ _ _ 16 7 _ Try.underlying53 sz51 rfl rfl (ix_ok hv13).1 (ix_ok hv13).2 (by decide)),
          st_plain rfl (op_load_arr _ _ _ _ _ _ Try.underlying51 rfl rfl rfl (map_get1 hv14)),
          st_plain rfl (op_bin _ _ _ _ _ rfl rfl (ibind (f := Value.int .u32) (Option.some.inj hv15))),
          st_plain rfl (LOp.drop [_] (op_assign _ _ _ _ rfl rfl)),
          trivial⟩ ?_
      refine pt_then ?_
      obtain ⟨v16, hv16, h⟩ := bind_some h
      obtain ⟨v17, hv17, h⟩ := bind_some h
      obtain ⟨v18, hv18, h⟩ := bind_some h
      obtain ⟨v19, hv19, h⟩ := bind_some h
      obtain ⟨v20, hv20, h⟩ := bind_some h
      refine ht_seqR hn (El := [_, _, _, _, _, _, (35, .v (.int .u32 v15)), (36, .v (.int .u32 v16)), (37, .v (.int .u32 v15)), (38, .v (.int .u32 v17)), (39, .ptr 7 v18), (40, .v (.int .u32 v19)), (41, .v (.int .u32 v20)), (9, .v (.int .u32 v20))]) (init := [0, 1, 2, 3, 4, 5]) (fin := [0, 1, 2, 3, 4, 13]) (sps := [⟨[5], [], [6], [(.slot 35)]⟩, ⟨[6], [], [7], [(.slot 36)]⟩, ⟨[5], [], [8], [(.slot 37)]⟩, ⟨[8], [], [9], [(.slot 38)]⟩, ⟨[0, 9], [], [10], [(.slot 39)]⟩, ⟨[10, 0], [], [11], [(.slot 40)]⟩, ⟨[7, 11], [], [12], [(.slot 41)]⟩, ⟨[12], [5], [13], [(.slot 9)]⟩]) (es' := [(_, _), (_, _), (_, _), (_, _), (_, _), (9, .v (.int .u32 v20))]) (by kernel_rfl) rfl rfl
        ⟨st_plain rfl (op_move _ _ _ _ rfl rfl),
          st_plain rfl (op_bin _ _ _ _ _ rfl rfl (shr_ok hv16)),
          st_plain rfl (op_move _ _ _ _ rfl rfl),
          st_plain rfl (op_bin _ _ _ _ _ rfl rfl (rem_ok hv17)),
          st_plain rfl (op_ix_arr _ _ _ _ 16 7 _ Try.underlying53 sz51 rfl rfl (ix_ok hv18).1 (ix_ok hv18).2 (by decide)),
          st_plain rfl (op_load_arr _ _ _ _ _ _ Try.underlying51 rfl rfl rfl (map_get1 hv19)),
          st_plain rfl (op_bin _ _ _ _ _ rfl rfl (ibind (f := Value.int .u32) (Option.some.inj hv20))),
          st_plain rfl (LOp.drop [_] (op_assign _ _ _ _ rfl rfl)),
          trivial⟩ ?_
      refine pt_inb ?_
      refine pt_then ?_
      obtain ⟨v21, hv21, h⟩ := bind_some h
      refine ht_seqR hn (El := [_, _, _, _, _, _, (42, .v (.int .i64 v21)), (20, .v (.int .i64 v21))]) (init := [0, 1, 2, 3, 4, 5]) (fin := [0, 1, 2, 3, 5, 7]) (sps := [⟨[4], [], [6], [(.slot 42)]⟩, ⟨[6], [4], [7], [(.slot 20)]⟩]) (es' := [(_, _), (_, _), (_, _), (_, _), (_, _), (20, .v (.int .i64 v21))]) (by kernel_rfl) rfl rfl
        ⟨st_plain rfl (op_bin _ _ _ _ _ rfl rfl (ibind (f := Value.int .i64) (Option.some.inj hv21))),
          st_plain rfl (LOp.drop [_] (op_move _ _ _ _ rfl rfl)),
          trivial⟩ ?_
      refine pt_pick [0, 1, 4, 2, 3, 5] (by kernel_rfl) (es' := [(_, _), (_, _), (_, _), (_, _), (_, _), (_, _)]) rfl ?_
      exact pt_next _ (Option.some.inj h).symm rfl
    · have h := cond_f hb35 h
      refine ht_exit ?_
      refine pt_x_then ?_
      refine pt_x_then ?_
      refine pt_x_in ?_
      refine pt_pick [1, 2] (by kernel_rfl) (es' := [(_, _), (_, _)]) rfl ?_
      exact hl30 _ (ho32 _ (Option.some.inj h).symm).symm

set_option maxHeartbeats 1000000 in
theorem ok_sums_Short (b : (List Int)) (r : Int) (h : Sh.sums_Short b = some r) : FnOK Try.prog 24 [.fl .shr 1 (List.map (Value.int .u8) b)] (.v (.int .i64 r)) := by
  unfold Sh.sums_Short at h
  refine fn_ok Try.func24 rfl (Nat.le_of_ble_eq_true rfl) rfl rfl fun g0 hn hio => ?_
  refine ht_seq ?_
  refine ht_seqR hn (El := [_, (2, .v (.int .i64 0))]) (init := [0]) (fin := [0]) (sps := [⟨[], [], [1], [(.slot 2)]⟩]) (es' := [(_, _)]) (by kernel_rfl) rfl rfl
    ⟨st_plain rfl (op_assign _ _ _ _ rfl rfl),
      trivial⟩ ?_
  refine pt_then ?_
  refine ht_seq ?_
  obtain ⟨v1, hv1, h⟩ := bind_some h
  refine ht_seqR hn (El := [_, (3, .fl .shr 1 (List.map (Value.int .u8) b)), (4, .v (.int .i64 v1)), (2, .v (.int .i64 v1))]) (init := [0]) (fin := [3]) (sps := [⟨[0], [], [1], [(.slot 3)]⟩, ⟨[1], [], [2], [(.slot 4)]⟩, ⟨[2], [], [3], [(.slot 2)]⟩]) (es' := [(2, .v (.int .i64 v1))]) (by kernel_rfl) rfl rfl
    ⟨st_plain rfl (op_move _ _ _ _ rfl rfl),
      st_plain rfl (op_call _ _ 27 _ _ rfl Try.call27 rfl (ok_sums_sum b 16 33800 _ hv1) rfl rfl),
      st_plain rfl (op_assign _ _ _ _ rfl rfl),
      trivial⟩ ?_
  refine pt_then ?_
  refine ht_ret ?_
  obtain rfl := Option.some.inj h
  exact pt_ret hio rfl (.tmp _ _ .nil) rfl rfl

set_option maxHeartbeats 1000000 in
theorem ok_frame_Bytes (f : T_Frame) (r : ((List Int) × Int)) (h : Sh.frame_Bytes f = some r) : FnOK Try.prog 12 [.agg [.v (.int .i64 f.Kind), .v (.int .i64 f.Number), .v (.int .i64 f.Offset), .v (.int .i64 f.Seq), .fl .shr 1 (List.map (Value.int .u8) f.Data)]] (.tup [.fl (.own 5) 1 (List.map (Value.int .u8) r.1), .v (.int .i64 r.2)]) := by
  unfold Sh.frame_Bytes at h
  refine fn_ok Try.func12 rfl (Nat.le_of_ble_eq_true rfl) rfl rfl fun g0 hn hio => ?_
  refine ht_seq ?_
  refine ht_seqR hn (El := [_, (1, .box 24 [.v (.int .i64 f.Kind), .v (.int .i64 f.Number), .v (.int .i64 f.Offset), .v (.int .i64 f.Seq), .fl .shr 1 (List.map (Value.int .u8) f.Data)]), (2, .v (.slice none 0 0)), (3, .v (.int .i64 0))]) (init := [0]) (fin := [1]) (sps := [⟨[0], [], [1], [(.slot 1)]⟩, ⟨[], [], [2], [(.slot 2)]⟩, ⟨[], [], [3], [(.slot 3)]⟩]) (es' := [(1, .box 24 [.v (.int .i64 f.Kind), .v (.int .i64 f.Number), .v (.int .i64 f.Offset), .v (.int .i64 f.Seq), .fl .shr 1 (List.map (Value.int .u8) f.Data)])]) (by kernel_rfl) rfl rfl
    ⟨st_plain rfl (op_box _ _ _ _ rfl rfl rfl),
      st_plain rfl (op_assign _ _ _ _ rfl rfl),
      st_plain rfl (op_assign _ _ _ _ rfl rfl),
      trivial⟩ ?_
  refine pt_then ?_
  refine ht_seq ?_
  refine ht_seq ?_
  obtain ⟨v1, hv1, h⟩ := bind_some h
  refine ht_seqR hn (El := [_, (7, .agg [.v (.int .i64 f.Kind), .v (.int .i64 f.Number), .v (.int .i64 f.Offset), .v (.int .i64 f.Seq), .fl .shr 1 (List.map (Value.int .u8) f.Data)]), (8, .v (.int .i64 v1)), (4, .v (.int .i64 v1))]) (init := [0]) (fin := [0, 3]) (sps := [⟨[0], [], [1], [(.slot 7)]⟩, ⟨[1], [], [2], [(.slot 8)]⟩, ⟨[2], [], [3], [(.slot 4)]⟩]) (es' := [(_, _), (4, .v (.int .i64 v1))]) (by kernel_rfl) rfl rfl
    ⟨st_plain rfl (op_loadA _ _ _ _ _ _ _ Try.underlying24 rfl sz24 rfl rfl (Nat.le_of_ble_eq_true rfl) rfl rfl),
      st_plain rfl (op_call _ _ 16 _ _ rfl Try.call16 rfl (ok_frame_Check f _ hv1) rfl rfl),
      st_plain rfl (op_assign _ _ _ _ rfl rfl),
      trivial⟩ ?_
  refine pt_then ?_
  refine ht_seq ?_
  refine ht_seqR hn (El := [_, _, (9, .v (.int .i64 v1)), (10, .v (.bool (v1 != 0)))]) (init := [0, 1]) (fin := [0, 1, 3]) (sps := [⟨[1], [], [2], [(.slot 9)]⟩, ⟨[2], [], [3], [(.slot 10)]⟩]) (es' := [(_, _), (_, _), (10, .v (.bool (v1 != 0)))]) (by kernel_rfl) rfl rfl
    ⟨st_plain rfl (op_move _ _ _ _ rfl rfl),
      st_plain rfl (op_bin _ _ _ _ _ rfl rfl rfl),
      trivial⟩ ?_
  refine pt_then ?_
  refine ht_cond _ rfl (fun hb2 => ?_) (fun hb2 => ?_)
  · have h := cond_t hb2 h
    refine ht_seq ?_
    refine ht_seqR hn (El := [_, _, _, (11, .v (.int .i64 v1)), (2, .v (.slice none 0 0)), (3, .v (.int .i64 v1))]) (init := [0, 1, 2]) (fin := [4, 5]) (sps := [⟨[1], [], [3], [(.slot 11)]⟩, ⟨[], [], [4], [(.slot 2)]⟩, ⟨[3], [], [5], [(.slot 3)]⟩]) (es' := [(2, .v (.slice none 0 0)), (3, .v (.int .i64 v1))]) (by kernel_rfl) rfl rfl
      ⟨st_plain rfl (op_move _ _ _ _ rfl rfl),
        st_plain rfl (op_assign _ _ _ _ rfl rfl),
        st_plain rfl (op_assign _ _ _ _ rfl rfl),
        trivial⟩ ?_
    refine pt_then ?_
    refine ht_ret ?_
    refine pt_sub (fs := [(2, .fl (.own 5) 1 (List.map (Value.int .u8) [])), (3, .v (.int .i64 v1))]) (.sub _ (sub_nil 5 1) rfl (.same _ .nil)) ?_
    refine pt_r_then ?_
    obtain rfl := Option.some.inj h
    exact pt_ret hio rfl (.tmp _ _ (.tmp _ _ .nil)) rfl rfl
  · have h := cond_f hb2 h
    refine ht_skip ?_
    refine pt_then ?_
    refine ht_seq ?_
    obtain ⟨v3, hv3, h⟩ := bind_some h
    obtain ⟨v4, hv4, h⟩ := bind_some h
    obtain ⟨v5, hv5, h⟩ := bind_some h
    obtain ⟨v6, hv6, h⟩ := bind_some h
    obtain ⟨v7, hv7, h⟩ := bind_some h
    obtain ⟨v8, hv8, h⟩ := bind_some h
    obtain ⟨v9, hv9, h⟩ := bind_some h
    obtain ⟨v10, hv10, h⟩ := bind_some h
    obtain ⟨v11, hv11, h⟩ := bind_some h
    refine ht_seqR hn (El := (_ :: _ :: _ :: (12, .ptr 1 0) :: (13, .v (.int .i64 f.Kind)) :: (14, .v (.int .u8 v3)) :: (15, .ptr 1 1) :: (16, .v (.int .i64 f.Number)) :: (17, .v (.int .i64 v4)) :: (18, .v (.int .u8 v5)) :: (19, .ptr 1 1) :: (20, .v (.int .i64 f.Number)) :: (21, .v (.int .u8 v6)) :: (22, .ptr 1 2) :: (23, .v (.int .i64 f.Offset)) :: (24, .v (.int .i64 v7)) :: (25, .v (.int .u8 v8)) :: (26, .ptr 1 2) :: (27, .v (.int .i64 f.Offset)) :: (28, .v (.int .u8 v9)) :: (29, .ptr 1 3) :: (30, .v (.int .i64 f.Seq)) :: (31, .v (.int .u8 v10)) :: (32, .ptr 1 4) :: (33, .fl .shr 1 (List.map (Value.int .u8) f.Data)) :: (34, .v (.int .i64 (f.Data.length : Int))) :: (35, .v (.int .u8 v11)) :: (36, .fl (.own 5) 1 (List.map (Value.int .u8) [v3, v5, v6, v8, v9, v10, v11])) :: (5, .fl (.own 5) 1 (List.map (Value.int .u8) [v3, v5, v6, v8, v9, v10, v11])) :: [])) (init := [0, 1, 2]) (fin := [0, 28]) (sps := (⟨[0], [], [3], [(.slot 12)]⟩ :: ⟨[3, 0], [], [4], [(.slot 13)]⟩ :: ⟨[4], [], [5], [(.slot 14)]⟩ :: ⟨[0], [], [6], [(.slot 15)]⟩ :: ⟨[6, 0], [], [7], [(.slot 16)]⟩ :: ⟨[7], [], [8], [(.slot 17)]⟩ :: ⟨[8], [], [9], [(.slot 18)]⟩ :: ⟨[0], [], [10], [(.slot 19)]⟩ :: ⟨[10, 0], [], [11], [(.slot 20)]⟩ :: ⟨[11], [], [12], [(.slot 21)]⟩ :: ⟨[0], [], [13], [(.slot 22)]⟩ :: ⟨[13, 0], [], [14], [(.slot 23)]⟩ :: ⟨[14], [], [15], [(.slot 24)]⟩ :: ⟨[15], [], [16], [(.slot 25)]⟩ :: ⟨[0], [], [17], [(.slot 26)]⟩ :: ⟨[17, 0], [], [18], [(.slot 27)]⟩ :: ⟨[18], [], [19], [(.slot 28)]⟩ :: ⟨[0], [], [20], [(.slot 29)]⟩ :: ⟨[20, 0], [], [21], [(.slot 30)]⟩ :: ⟨[21], [], [22], [(.slot 31)]⟩ :: ⟨[0], [], [23], [(.slot 32)]⟩ :: ⟨[23, 0], [], [24], [(.slot 33)]⟩ :: ⟨[24], [], [25], [(.slot 34)]⟩ :: ⟨[25], [], [26], [(.slot 35)]⟩ :: ⟨[5, 9, 12, 16, 19, 22, 26], [], [27], [(.slot 36)]⟩ :: ⟨[], [27], [28], [(.slot 5)]⟩ :: [])) (es' := [(_, _), (5, .fl (.own 5) 1 (List.map (Value.int .u8) [v3, v5, v6, v8, v9, v10, v11]))]) (by kernel_rfl) rfl rfl
      ⟨st_plain rfl (op_fieldAddr _ _ _ _ 1 0 _ Try.underlying24 rfl sz3 rfl rfl (by decide)),
        st_plain rfl (op_load _ _ _ _ _ _ Try.underlying3 rfl rfl rfl (Nat.le_of_ble_eq_true rfl) rfl rfl rfl),
        st_plain rfl ((Option.some.inj hv3) ▸ op_conv _ _ _ Try.underlying3 Try.underlying5 rfl),
        st_plain rfl (op_fieldAddr _ _ _ _ 1 0 _ Try.underlying24 rfl sz3 rfl rfl (by decide)),
        st_plain rfl (op_load _ _ _ _ _ _ Try.underlying3 rfl rfl rfl (Nat.le_of_ble_eq_true rfl) rfl rfl rfl),
        st_plain rfl (op_bin _ _ _ _ _ rfl rfl (shr_ok hv4)),
        st_plain rfl ((Option.some.inj hv5) ▸ op_conv _ _ _ Try.underlying3 Try.underlying5 rfl),
        st_plain rfl (op_fieldAddr _ _ _ _ 1 0 _ Try.underlying24 rfl sz3 rfl rfl (by decide)),
        st_plain rfl (op_load _ _ _ _ _ _ Try.underlying3 rfl rfl rfl (Nat.le_of_ble_eq_true rfl) rfl rfl rfl),
        st_plain rfl ((Option.some.inj hv6) ▸ op_conv _ _ _ Try.underlying3 Try.underlying5 rfl),
        st_plain rfl (op_fieldAddr _ _ _ _ 1 0 _ Try.underlying24 rfl sz3 rfl rfl (by decide)),
        st_plain rfl (op_load _ _ _ _ _ _ Try.underlying3 rfl rfl rfl (Nat.le_of_ble_eq_true rfl) rfl rfl rfl),
        st_plain rfl (op_bin _ _ _ _ _ rfl rfl (shr_ok hv7)),
        st_plain rfl ((Option.some.inj hv8) ▸ op_conv _ _ _ Try.underlying3 Try.underlying5 rfl),
        st_plain rfl (op_fieldAddr _ _ _ _ 1 0 _ Try.underlying24 rfl sz3 rfl rfl (by decide)),
        st_plain rfl (op_load _ _ _ _ _ _ Try.underlying3 rfl rfl rfl (Nat.le_of_ble_eq_true rfl) rfl rfl rfl),
        st_plain rfl ((Option.some.inj hv9) ▸ op_conv _ _ _ Try.underlying3 Try.underlying5 rfl),
        st_plain rfl (op_fieldAddr _ _ _ _ 1 0 _ Try.underlying24 rfl sz3 rfl rfl (by decide)),
        st_plain rfl (op_load _ _ _ _ _ _ Try.underlying3 rfl rfl rfl (Nat.le_of_ble_eq_true rfl) rfl rfl rfl),
        st_plain rfl ((Option.some.inj hv10) ▸ op_conv _ _ _ Try.underlying3 Try.underlying5 rfl),
        st_plain rfl (op_fieldAddr _ _ _ _ 1 0 _ Try.underlying24 rfl sz22 rfl rfl (by decide)),
        st_plain rfl (op_load _ _ _ _ _ _ Try.underlying22 rfl rfl rfl (Nat.le_of_ble_eq_true rfl) rfl rfl rfl),
        st_plain rfl (op_len_fl _ _ _ Try.underlying22 rfl (by decide) (map_len _)),
        st_plain rfl ((Option.some.inj hv11) ▸ op_conv _ _ _ Try.underlying3 Try.underlying5 rfl),
        st_plain rfl (op_buildSlice _ _ 1 (.int .u8 0) (List.map (Value.int .u8) [v3, v5, v6, v8, v9, v10, v11]) [(0, .int .u8 v3), (1, .int .u8 v5), (2, .int .u8 v6), (3, .int .u8 v8), (4, .int .u8 v9), (5, .int .u8 v10), (6, .int .u8 v11)] Try.underlying22 sz5 zr5 (fun _ V w o a hv hes => by have e0 := rd_v hv hes (x := .tmp 14) rfl; have e1 := rd_v hv hes (x := .tmp 18) rfl; have e2 := rd_v hv hes (x := .tmp 21) rfl; have e3 := rd_v hv hes (x := .tmp 25) rfl; have e4 := rd_v hv hes (x := .tmp 28) rfl; have e5 := rd_v hv hes (x := .tmp 31) rfl; have e6 := rd_v hv hes (x := .tmp 35) rfl; simp only [List.map_toArray, List.map_cons, List.map_nil, e0, e1, e2, e3, e4, e5, e6]; try rfl) (litfill (by simp [Instr.fill, Value.cells]; rfl) (by simp [List.range, List.range.loop])) (by simp [Value.oneCell']) rfl (by decide) (by decide) (by decide)),
        st_plain rfl (op_assign_take _ _ _ _ rfl),
        trivial⟩ ?_
    refine pt_then ?_
    refine ht_seq ?_
    obtain ⟨v12, hv12, h⟩ := bind_some h
    refine ht_seqR hn (El := [_, _, (37, .fl (.own 5) 1 (List.map (Value.int .u8) [v3, v5, v6, v8, v9, v10, v11])), (38, .ptr 1 4), (39, .fl .shr 1 (List.map (Value.int .u8) f.Data)), (40, .fl (.own 5) 1 (List.map (Value.int .u8) v12)), (37, .any), (5, .fl (.own 5) 1 (List.map (Value.int .u8) v12))]) (init := [0, 1]) (fin := [7]) (sps := [⟨[], [1], [2], [(.slot 37)]⟩, ⟨[0], [], [3], [(.slot 38)]⟩, ⟨[3, 0], [], [4], [(.slot 39)]⟩, ⟨[4], [2], [6, 5], [(.slot 40)]⟩, ⟨[], [5], [7], [(.slot 5)]⟩]) (es' := [(5, .fl (.own 5) 1 (List.map (Value.int .u8) v12))]) (by kernel_rfl) rfl rfl
      ⟨st_plain rfl (op_move_take _ _ _ _ rfl),
        st_plain rfl (op_fieldAddr _ _ _ _ 1 0 _ Try.underlying24 rfl sz22 rfl rfl (by decide)),
        st_plain rfl (op_load _ _ _ _ _ _ Try.underlying22 rfl rfl rfl (Nat.le_of_ble_eq_true rfl) rfl rfl rfl),
        st_plain rfl (op_app _ _ _ _ _ el22 rfl rfl (map_len _) (map_len _) hv12 ((List.map_append).symm.trans (congrArg (List.map _) (app_eq hv12)))),
        st_plain rfl (op_assign_take _ _ _ _ rfl),
        trivial⟩ ?_
    refine pt_then ?_
    refine ht_seq ?_
    obtain ⟨v13, hv13, h⟩ := bind_some h
    refine ht_seqR hn (El := [_, (41, .same (.slot 5)), (42, .v (.int .i64 v13)), (6, .v (.int .i64 v13))]) (init := [0]) (fin := [0, 3]) (sps := [⟨[0], [], [1], [(.slot 41)]⟩, ⟨[1, 0], [], [2], [(.slot 42)]⟩, ⟨[2], [], [3], [(.slot 6)]⟩]) (es' := [(_, _), (6, .v (.int .i64 v13))]) (by kernel_rfl) rfl rfl
      ⟨st_plain rfl (op_move _ _ _ _ rfl rfl),
        st_plain rfl (op_call _ _ 24 _ _ rfl Try.call24 rfl (ok_sums_Short v12 _ hv13) rfl rfl),
        st_plain rfl (op_assign _ _ _ _ rfl rfl),
        trivial⟩ ?_
    refine pt_then ?_
    refine ht_seq ?_
    obtain ⟨v14, hv14, h⟩ := bind_some h
    obtain ⟨v15, hv15, h⟩ := bind_some h
    obtain ⟨v16, hv16, h⟩ := bind_some h
    obtain ⟨v17, hv17, h⟩ := bind_some h
    refine ht_seqR hn (El := [_, _, (43, .fl (.own 5) 1 (List.map (Value.int .u8) v12)), (44, .v (.int .i64 v13)), (45, .v (.int .u8 v14)), (46, .v (.int .i64 v13)), (47, .v (.int .i64 v15)), (48, .v (.int .u8 v16)), (49, .fl (.own 5) 1 (List.map (Value.int .u8) [v14, v16])), (50, .fl (.own 5) 1 (List.map (Value.int .u8) v17)), (43, .any), (2, .fl (.own 5) 1 (List.map (Value.int .u8) v17)), (3, .v (.int .i64 0))]) (init := [0, 1]) (fin := [11, 12]) (sps := [⟨[], [0], [2], [(.slot 43)]⟩, ⟨[1], [], [3], [(.slot 44)]⟩, ⟨[3], [], [4], [(.slot 45)]⟩, ⟨[1], [], [5], [(.slot 46)]⟩, ⟨[5], [], [6], [(.slot 47)]⟩, ⟨[6], [], [7], [(.slot 48)]⟩, ⟨[4, 7], [], [8], [(.slot 49)]⟩, ⟨[8], [2], [10, 9], [(.slot 50)]⟩, ⟨[], [9], [11], [(.slot 2)]⟩, ⟨[], [], [12], [(.slot 3)]⟩]) (es' := [(2, .fl (.own 5) 1 (List.map (Value.int .u8) v17)), (3, .v (.int .i64 0))]) (by kernel_rfl) rfl rfl
      ⟨st_plain rfl (op_move_take _ _ _ _ rfl),
        st_plain rfl (op_move _ _ _ _ rfl rfl),
        st_plain rfl ((Option.some.inj hv14) ▸ op_conv _ _ _ Try.underlying3 Try.underlying5 rfl),
        st_plain rfl (op_move _ _ _ _ rfl rfl),
        st_plain rfl (op_bin _ _ _ _ _ rfl rfl (shr_ok hv15)),
        st_plain rfl ((Option.some.inj hv16) ▸ op_conv _ _ _ Try.underlying3 Try.underlying5 rfl),
        st_plain rfl (op_buildSlice _ _ 1 (.int .u8 0) (List.map (Value.int .u8) [v14, v16]) [(0, .int .u8 v14), (1, .int .u8 v16)] Try.underlying22 sz5 zr5 (fun _ V w o a hv hes => by have e0 := rd_v hv hes (x := .tmp 45) rfl; have e1 := rd_v hv hes (x := .tmp 48) rfl; simp only [List.map_toArray, List.map_cons, List.map_nil, e0, e1]; try rfl) (litfill (by simp [Instr.fill, Value.cells]; rfl) (by simp [List.range, List.range.loop])) (by simp [Value.oneCell']) rfl (by decide) (by decide) (by decide)),
        st_plain rfl (op_app _ _ _ _ _ el22 rfl rfl (map_len _) (map_len _) hv17 ((List.map_append).symm.trans (congrArg (List.map _) (app_eq hv17)))),
        st_plain rfl (op_assign_take _ _ _ _ rfl),
        st_plain rfl (op_assign _ _ _ _ rfl rfl),
        trivial⟩ ?_
    refine pt_then ?_
    refine ht_ret ?_
    obtain rfl := Option.some.inj h
    exact pt_ret hio rfl (.tmp _ _ (.tmp _ _ .nil)) rfl rfl

set_option maxHeartbeats 1000000 in
theorem ok_frame_Read (b : (List Int)) (r : (T_Frame × Int)) (h : Sh.frame_Read b = some r) : FnOK Try.prog 13 [.fl .shr 1 (List.map (Value.int .u8) b)] (.tup [.agg [.v (.int .i64 r.1.Kind), .v (.int .i64 r.1.Number), .v (.int .i64 r.1.Offset), .v (.int .i64 r.1.Seq), .fl (.own 5) 1 (List.map (Value.int .u8) r.1.Data)], .v (.int .i64 r.2)]) := by
  unfold Sh.frame_Read at h
  refine fn_ok Try.func13 rfl (Nat.le_of_ble_eq_true rfl) rfl rfl fun g0 hn hio => ?_
  refine ht_seq ?_
  refine ht_seqR hn (El := [_, (2, .box 24 [.v (.int .i64 0), .v (.int .i64 0), .v (.int .i64 0), .v (.int .i64 0), .v (.slice none 0 0)]), (3, .v (.int .i64 0))]) (init := [0]) (fin := [0, 1]) (sps := [⟨[], [], [1], [(.slot 2)]⟩, ⟨[], [], [2], [(.slot 3)]⟩]) (es' := [(_, _), (2, .box 24 [.v (.int .i64 0), .v (.int .i64 0), .v (.int .i64 0), .v (.int .i64 0), .v (.slice none 0 0)])]) (by kernel_rfl) rfl rfl
    ⟨st_plain rfl (op_alloc _ _ zr24),
      st_plain rfl (op_assign _ _ _ _ rfl rfl),
      trivial⟩ ?_
  refine pt_then ?_
  refine ht_seq ?_
  refine ht_seq ?_
  refine ht_joinS h (fun (s1 : Bool) => [(0, .fl .shr 1 (List.map (Value.int .u8) b)), (2, .box 24 [.v (.int .i64 0), .v (.int .i64 0), .v (.int .i64 0), .v (.int .i64 0), .v (.slice none 0 0)]), (14, .v (.bool s1))]) ?_ ?_
  · rintro s1 h
    refine pt_then ?_
    refine ht_cond _ rfl (fun hb5 => ?_) (fun hb5 => ?_)
    · have h := cond_t hb5 h
      refine ht_seq ?_
      refine ht_seqR hn (El := [_, _, _, (15, .agg [.v (.int .i64 0), .v (.int .i64 0), .v (.int .i64 0), .v (.int .i64 0), .v (.slice none 0 0)]), (2, .box 24 [.v (.int .i64 0), .v (.int .i64 0), .v (.int .i64 0), .v (.int .i64 0), .v (.slice none 0 0)]), (3, .v (.int .i64 3))]) (init := [0, 1, 2]) (fin := [4, 5]) (sps := [⟨[], [], [3], [(.slot 15)]⟩, ⟨[3], [1], [4], [.cell 2 0, .cell 2 1, .cell 2 2, .cell 2 3, .cell 2 4]⟩, ⟨[], [], [5], [(.slot 3)]⟩]) (es' := [(2, .box 24 [.v (.int .i64 0), .v (.int .i64 0), .v (.int .i64 0), .v (.int .i64 0), .v (.slice none 0 0)]), (3, .v (.int .i64 3))]) (by kernel_rfl) rfl rfl
        ⟨st_plain rfl (op_build _ _ _ _ [1, 1, 1, 1, 1] _ _ Try.underlying24 zr24 (fs24 _ Try.underlying24) Src.nil rfl rfl rfl),
          st_plain rfl (op_store _ _ _ _ _ _ _ _ sz24 rfl rfl rfl rfl (Nat.le_of_ble_eq_true rfl) rfl rfl),
          st_plain rfl (op_assign _ _ _ _ rfl rfl),
          trivial⟩ ?_
      refine pt_then ?_
      refine ht_ret ?_
      refine pt_sub (fs := [(2, .box 24 [.v (.int .i64 0), .v (.int .i64 0), .v (.int .i64 0), .v (.int .i64 0), .fl (.own 5) 1 (List.map (Value.int .u8) [])]), (3, .v (.int .i64 3))]) (.box _ _ (subs_cons (sub_refl _) (subs_cons (sub_refl _) (subs_cons (sub_refl _) (subs_cons (sub_refl _) (subs_cons (sub_nil 5 1) (subs_nil)))))) rfl (.same _ .nil)) ?_
      refine pt_r_then ?_
      obtain rfl := Option.some.inj h
      exact pt_ret hio rfl (.cellA _ _ _ _ Try.underlying24 rfl sz24 (.tmp _ _ .nil)) rfl rfl
    · have h := cond_f hb5 h
      refine ht_skip ?_
      refine pt_then ?_
      refine ht_seq ?_
      obtain ⟨v6, hv6, h⟩ := bind_some h
      obtain ⟨v7, hv7, h⟩ := bind_some h
      obtain ⟨v8, hv8, h⟩ := bind_some h
      obtain ⟨v9, hv9, h⟩ := bind_some h
      refine ht_anyR (by kernel_rfl) hn (El := (_ :: _ :: _ :: (16, .fl .shr 1 (List.map (Value.int .u8) b)) :: (17, .fl .shr 1 (List.map (Value.int .u8) b)) :: (18, .v (.int .i64 (b.length : Int))) :: (19, .v (.int .i64 v6)) :: (20, .fl .shr 1 (List.map (Value.int .u8) v7)) :: (21, .fl .shr 1 (List.map (Value.int .u8) b)) :: (22, .fl .shr 1 (List.map (Value.int .u8) b)) :: (23, .v (.int .i64 (b.length : Int))) :: (24, .v (.int .i64 v8)) :: (25, .fl .shr 1 (List.map (Value.int .u8) v9)) :: (4, .fl .shr 1 (List.map (Value.int .u8) v7)) :: (5, .fl .shr 1 (List.map (Value.int .u8) v9)) :: [])) (init := [0, 1, 2]) (fin := [1, 13, 14]) (sps := [⟨[0], [], [3], [(.slot 16)]⟩, ⟨[0], [], [4], [(.slot 17)]⟩, ⟨[4], [], [5], [(.slot 18)]⟩, ⟨[5], [], [6], [(.slot 19)]⟩, ⟨[3, 6], [], [7], [(.slot 20)]⟩, ⟨[0], [], [8], [(.slot 21)]⟩, ⟨[0], [], [9], [(.slot 22)]⟩, ⟨[9], [], [10], [(.slot 23)]⟩, ⟨[10], [], [11], [(.slot 24)]⟩, ⟨[8, 11], [], [12], [(.slot 25)]⟩, ⟨[7], [], [13], [(.slot 4)]⟩, ⟨[12], [], [14], [(.slot 5)]⟩]) (es' := [(_, _), (4, .fl .shr 1 (List.map (Value.int .u8) v7)), (5, .fl .shr 1 (List.map (Value.int .u8) v9))]) (by kernel_rfl) rfl rfl
        ⟨st_plain rfl (op_move _ _ _ _ rfl rfl),
          st_plain rfl (op_move _ _ _ _ rfl rfl),
          st_plain rfl (op_len_fl _ _ _ Try.underlying22 rfl (by decide) (map_len _)),
          st_plain rfl (op_bin _ _ _ _ _ rfl rfl (ibind (f := Value.int .i64) (Option.some.inj hv6))),
          st_plain rfl (op_sl _ _ _ 0 v6 _ Try.underlying22 sz5 rfl rfl rfl ⟨_, rfl⟩ hv7),
          st_plain rfl (op_move _ _ _ _ rfl rfl),
          st_plain rfl (op_move _ _ _ _ rfl rfl),
          st_plain rfl (op_len_fl _ _ _ Try.underlying22 rfl (by decide) (map_len _)),
          st_plain rfl (op_bin _ _ _ _ _ rfl rfl (ibind (f := Value.int .i64) (Option.some.inj hv8))),
          st_plain rfl (op_sl _ _ _ v8 (b.length : Int) _ Try.underlying22 sz5 rfl rfl ⟨_, rfl⟩ rfl hv9),
          st_plain rfl (op_assign _ _ _ _ rfl rfl),
          st_plain rfl (op_assign _ _ _ _ rfl rfl),
          trivial⟩ ?_
      refine pt_then ?_
      refine ht_seq ?_
      refine ht_seq ?_
      obtain ⟨v10, hv10, h⟩ := bind_some h
      obtain ⟨v11, hv11, h⟩ := bind_some h
      obtain ⟨v12, hv12, h⟩ := bind_some h
      obtain ⟨v13, hv13, h⟩ := bind_some h
      obtain ⟨v14, hv14, h⟩ := bind_some h
      obtain ⟨v15, hv15, h⟩ := bind_some h
      obtain ⟨v16, hv16, h⟩ := bind_some h
      obtain ⟨v17, hv17, h⟩ := bind_some h
      obtain ⟨v18, hv18, h⟩ := bind_some h
      refine ht_anyR (by kernel_rfl) hn (El := (_ :: _ :: _ :: (26, .fl .shr 1 (List.map (Value.int .u8) v7)) :: (27, .v (.int .i64 v10)) :: (28, .fl .shr 1 (List.map (Value.int .u8) v9)) :: (29, .eref (.slot 28) (v11 * 1)) :: (30, .v (.int .u8 v12)) :: (31, .v (.int .i64 v13)) :: (32, .fl .shr 1 (List.map (Value.int .u8) v9)) :: (33, .eref (.slot 32) (v14 * 1)) :: (34, .v (.int .u8 v15)) :: (35, .v (.int .i64 v16)) :: (36, .v (.int .i64 v17)) :: (37, .v (.int .i64 v18)) :: (38, .v (.bool (v10 != v18))) :: [])) (init := [0, 1, 2]) (fin := [0, 1, 15]) (sps := [⟨[1], [], [3], [(.slot 26)]⟩, ⟨[3], [], [4], [(.slot 27)]⟩, ⟨[2], [], [5], [(.slot 28)]⟩, ⟨[5], [], [6], [(.slot 29)]⟩, ⟨[6, 5], [], [7], [(.slot 30)]⟩, ⟨[7], [], [8], [(.slot 31)]⟩, ⟨[2], [], [9], [(.slot 32)]⟩, ⟨[9], [], [10], [(.slot 33)]⟩, ⟨[10, 9], [], [11], [(.slot 34)]⟩, ⟨[11], [], [12], [(.slot 35)]⟩, ⟨[12], [], [13], [(.slot 36)]⟩, ⟨[8, 13], [], [14], [(.slot 37)]⟩, ⟨[4, 14], [], [15], [(.slot 38)]⟩]) (es' := [(_, _), (_, _), (38, .v (.bool (v10 != v18)))]) (by kernel_rfl) rfl rfl
        ⟨st_plain rfl (op_move _ _ _ _ rfl rfl),
          st_plain rfl (op_call _ _ 24 _ _ rfl Try.call24 rfl (ok_sums_Short v7 _ hv10) rfl rfl),
          st_plain rfl (op_move _ _ _ _ rfl rfl),
          st_plain rfl (op_ix _ _ _ _ _ _ _ _ Try.underlying22 sz5 (by decide) rfl rfl rfl (ix_ok hv11).1 (map_lt (ix_ok hv11).2) rfl),
          st_plain rfl (op_load_e _ _ _ _ _ _ Try.underlying5 rfl rfl rfl (map_get hv12)),
          st_plain rfl ((Option.some.inj hv13) ▸ op_conv _ _ _ Try.underlying5 Try.underlying3 rfl),
          st_plain rfl (op_move _ _ _ _ rfl rfl),
          st_plain rfl (op_ix _ _ _ _ _ _ _ _ Try.underlying22 sz5 (by decide) rfl rfl rfl (ix_ok hv14).1 (map_lt (ix_ok hv14).2) rfl),
          st_plain rfl (op_load_e _ _ _ _ _ _ Try.underlying5 rfl rfl rfl (map_get hv15)),
          st_plain rfl ((Option.some.inj hv16) ▸ op_conv _ _ _ Try.underlying5 Try.underlying3 rfl),
          st_plain rfl (op_bin _ _ _ _ _ rfl rfl (shl_ok hv17)),
          st_plain rfl (op_bin _ _ _ _ _ rfl rfl (ibind (f := Value.int .i64) (Option.some.inj hv18))),
          st_plain rfl (op_bin _ _ _ _ _ rfl rfl rfl),
          trivial⟩ ?_
      refine pt_then ?_
      refine ht_cond _ rfl (fun hb19 => ?_) (fun hb19 => ?_)
      · have h := cond_t hb19 h
        refine ht_seq ?_
        refine ht_seqR hn (El := [_, _, _, (39, .agg [.v (.int .i64 0), .v (.int .i64 0), .v (.int .i64 0), .v (.int .i64 0), .v (.slice none 0 0)]), (2, .box 24 [.v (.int .i64 0), .v (.int .i64 0), .v (.int .i64 0), .v (.int .i64 0), .v (.slice none 0 0)]), (3, .v (.int .i64 6))]) (init := [0, 1, 2]) (fin := [4, 5]) (sps := [⟨[], [], [3], [(.slot 39)]⟩, ⟨[3], [0], [4], [.cell 2 0, .cell 2 1, .cell 2 2, .cell 2 3, .cell 2 4]⟩, ⟨[], [], [5], [(.slot 3)]⟩]) (es' := [(2, .box 24 [.v (.int .i64 0), .v (.int .i64 0), .v (.int .i64 0), .v (.int .i64 0), .v (.slice none 0 0)]), (3, .v (.int .i64 6))]) (by kernel_rfl) rfl rfl
          ⟨st_plain rfl (op_build _ _ _ _ [1, 1, 1, 1, 1] _ _ Try.underlying24 zr24 (fs24 _ Try.underlying24) Src.nil rfl rfl rfl),
            st_plain rfl (op_store _ _ _ _ _ _ _ _ sz24 rfl rfl rfl rfl (Nat.le_of_ble_eq_true rfl) rfl rfl),
            st_plain rfl (op_assign _ _ _ _ rfl rfl),
            trivial⟩ ?_
        refine pt_then ?_
        refine ht_ret ?_
        refine pt_sub (fs := [(2, .box 24 [.v (.int .i64 0), .v (.int .i64 0), .v (.int .i64 0), .v (.int .i64 0), .fl (.own 5) 1 (List.map (Value.int .u8) [])]), (3, .v (.int .i64 6))]) (.box _ _ (subs_cons (sub_refl _) (subs_cons (sub_refl _) (subs_cons (sub_refl _) (subs_cons (sub_refl _) (subs_cons (sub_nil 5 1) (subs_nil)))))) rfl (.same _ .nil)) ?_
        refine pt_r_then ?_
        obtain rfl := Option.some.inj h
        exact pt_ret hio rfl (.cellA _ _ _ _ Try.underlying24 rfl sz24 (.tmp _ _ .nil)) rfl rfl
      · have h := cond_f hb19 h
        refine ht_skip ?_
        refine pt_then ?_
        refine ht_seq ?_
        obtain ⟨v20, hv20, h⟩ := bind_some h
        obtain ⟨v21, hv21, h⟩ := bind_some h
        obtain ⟨v22, hv22, h⟩ := bind_some h
        obtain ⟨v23, hv23, h⟩ := bind_some h
        obtain ⟨v24, hv24, h⟩ := bind_some h
        obtain ⟨v25, hv25, h⟩ := bind_some h
        obtain ⟨v26, hv26, h⟩ := bind_some h
        obtain ⟨v27, hv27, h⟩ := bind_some h
        obtain ⟨v28, hv28, h⟩ := bind_some h
        obtain ⟨v29, hv29, h⟩ := bind_some h
        obtain ⟨v30, hv30, h⟩ := bind_some h
        obtain ⟨v31, hv31, h⟩ := bind_some h
        obtain ⟨v32, hv32, h⟩ := bind_some h
        obtain ⟨v33, hv33, h⟩ := bind_some h
        obtain ⟨v34, hv34, h⟩ := bind_some h
        obtain ⟨v35, hv35, h⟩ := bind_some h
        obtain ⟨v36, hv36, h⟩ := bind_some h
        obtain ⟨v37, hv37, h⟩ := bind_some h
        obtain ⟨v38, hv38, h⟩ := bind_some h
        obtain ⟨v39, hv39, h⟩ := bind_some h
        obtain ⟨v40, hv40, h⟩ := bind_some h
        obtain ⟨v41, hv41, h⟩ := bind_some h
        obtain ⟨v42, hv42, h⟩ := bind_some h
        obtain ⟨v43, hv43, h⟩ := bind_some h
        refine ht_anyR (by kernel_rfl) hn (El := (_ :: _ :: _ :: (40, .fl .shr 1 (List.map (Value.int .u8) v7)) :: (41, .eref (.slot 40) (v20 * 1)) :: (42, .v (.int .u8 v21)) :: (43, .v (.int .i64 v22)) :: (44, .fl .shr 1 (List.map (Value.int .u8) v7)) :: (45, .eref (.slot 44) (v23 * 1)) :: (46, .v (.int .u8 v24)) :: (47, .v (.int .i64 v25)) :: (48, .v (.int .i64 v26)) :: (49, .fl .shr 1 (List.map (Value.int .u8) v7)) :: (50, .eref (.slot 49) (v27 * 1)) :: (51, .v (.int .u8 v28)) :: (52, .v (.int .i64 v29)) :: (53, .v (.int .i64 v30)) :: (54, .fl .shr 1 (List.map (Value.int .u8) v7)) :: (55, .eref (.slot 54) (v31 * 1)) :: (56, .v (.int .u8 v32)) :: (57, .v (.int .i64 v33)) :: (58, .v (.int .i64 v34)) :: (59, .fl .shr 1 (List.map (Value.int .u8) v7)) :: (60, .eref (.slot 59) (v35 * 1)) :: (61, .v (.int .u8 v36)) :: (62, .v (.int .i64 v37)) :: (63, .v (.int .i64 v38)) :: (64, .fl .shr 1 (List.map (Value.int .u8) v7)) :: (65, .eref (.slot 64) (v39 * 1)) :: (66, .v (.int .u8 v40)) :: (67, .v (.int .i64 v41)) :: (68, .fl .shr 1 (List.map (Value.int .u8) v7)) :: (69, .fl .shr 1 (List.map (Value.int .u8) v42)) :: (70, .fl (.own 5) 1 (List.map (Value.int .u8) v43)) :: (71, .agg [.v (.int .i64 v22), .v (.int .i64 v30), .v (.int .i64 v38), .v (.int .i64 v41), .fl (.own 5) 1 (List.map (Value.int .u8) v43)]) :: (6, .box 24 [.v (.int .i64 0), .v (.int .i64 0), .v (.int .i64 0), .v (.int .i64 0), .v (.slice none 0 0)]) :: (6, .box 24 [.v (.int .i64 v22), .v (.int .i64 v30), .v (.int .i64 v38), .v (.int .i64 v41), .fl (.own 5) 1 (List.map (Value.int .u8) v43)]) :: [])) (init := [0, 1, 2]) (fin := [0, 1, 36]) (sps := (⟨[1], [], [3], [(.slot 40)]⟩ :: ⟨[3], [], [4], [(.slot 41)]⟩ :: ⟨[4, 3], [], [5], [(.slot 42)]⟩ :: ⟨[5], [], [6], [(.slot 43)]⟩ :: ⟨[1], [], [7], [(.slot 44)]⟩ :: ⟨[7], [], [8], [(.slot 45)]⟩ :: ⟨[8, 7], [], [9], [(.slot 46)]⟩ :: ⟨[9], [], [10], [(.slot 47)]⟩ :: ⟨[10], [], [11], [(.slot 48)]⟩ :: ⟨[1], [], [12], [(.slot 49)]⟩ :: ⟨[12], [], [13], [(.slot 50)]⟩ :: ⟨[13, 12], [], [14], [(.slot 51)]⟩ :: ⟨[14], [], [15], [(.slot 52)]⟩ :: ⟨[11, 15], [], [16], [(.slot 53)]⟩ :: ⟨[1], [], [17], [(.slot 54)]⟩ :: ⟨[17], [], [18], [(.slot 55)]⟩ :: ⟨[18, 17], [], [19], [(.slot 56)]⟩ :: ⟨[19], [], [20], [(.slot 57)]⟩ :: ⟨[20], [], [21], [(.slot 58)]⟩ :: ⟨[1], [], [22], [(.slot 59)]⟩ :: ⟨[22], [], [23], [(.slot 60)]⟩ :: ⟨[23, 22], [], [24], [(.slot 61)]⟩ :: ⟨[24], [], [25], [(.slot 62)]⟩ :: ⟨[21, 25], [], [26], [(.slot 63)]⟩ :: ⟨[1], [], [27], [(.slot 64)]⟩ :: ⟨[27], [], [28], [(.slot 65)]⟩ :: ⟨[28, 27], [], [29], [(.slot 66)]⟩ :: ⟨[29], [], [30], [(.slot 67)]⟩ :: ⟨[1], [], [31], [(.slot 68)]⟩ :: ⟨[31], [], [32], [(.slot 69)]⟩ :: ⟨[32], [], [33], [(.slot 70)]⟩ :: ⟨[6, 16, 26, 30], [33], [34], [(.slot 71)]⟩ :: ⟨[], [], [35], [(.slot 6)]⟩ :: ⟨[], [34, 35], [36], [.cell 6 0, .cell 6 1, .cell 6 2, .cell 6 3, .cell 6 4]⟩ :: [])) (es' := [(_, _), (_, _), (6, .box 24 [.v (.int .i64 v22), .v (.int .i64 v30), .v (.int .i64 v38), .v (.int .i64 v41), .fl (.own 5) 1 (List.map (Value.int .u8) v43)])]) (by kernel_rfl) rfl rfl
          ⟨st_plain rfl (op_move _ _ _ _ rfl rfl),
            st_plain rfl (op_ix _ _ _ _ _ _ _ _ Try.underlying22 sz5 (by decide) rfl rfl rfl (ix_ok hv20).1 (map_lt (ix_ok hv20).2) rfl),
            st_plain rfl (op_load_e _ _ _ _ _ _ Try.underlying5 rfl rfl rfl (map_get hv21)),
            st_plain rfl ((Option.some.inj hv22) ▸ op_conv _ _ _ Try.underlying5 Try.underlying3 rfl),
            st_plain rfl (op_move _ _ _ _ rfl rfl),
            st_plain rfl (op_ix _ _ _ _ _ _ _ _ Try.underlying22 sz5 (by decide) rfl rfl rfl (ix_ok hv23).1 (map_lt (ix_ok hv23).2) rfl),
            st_plain rfl (op_load_e _ _ _ _ _ _ Try.underlying5 rfl rfl rfl (map_get hv24)),
            st_plain rfl ((Option.some.inj hv25) ▸ op_conv _ _ _ Try.underlying5 Try.underlying3 rfl),
            st_plain rfl (op_bin _ _ _ _ _ rfl rfl (shl_ok hv26)),
            st_plain rfl (op_move _ _ _ _ rfl rfl),
            st_plain rfl (op_ix _ _ _ _ _ _ _ _ Try.underlying22 sz5 (by decide) rfl rfl rfl (ix_ok hv27).1 (map_lt (ix_ok hv27).2) rfl),
            st_plain rfl (op_load_e _ _ _ _ _ _ Try.underlying5 rfl rfl rfl (map_get hv28)),
            st_plain rfl ((Option.some.inj hv29) ▸ op_conv _ _ _ Try.underlying5 Try.underlying3 rfl),
            st_plain rfl (op_bin _ _ _ _ _ rfl rfl (ibind (f := Value.int .i64) (Option.some.inj hv30))),
            st_plain rfl (op_move _ _ _ _ rfl rfl),
            st_plain rfl (op_ix _ _ _ _ _ _ _ _ Try.underlying22 sz5 (by decide) rfl rfl rfl (ix_ok hv31).1 (map_lt (ix_ok hv31).2) rfl),
            st_plain rfl (op_load_e _ _ _ _ _ _ Try.underlying5 rfl rfl rfl (map_get hv32)),
            st_plain rfl ((Option.some.inj hv33) ▸ op_conv _ _ _ Try.underlying5 Try.underlying3 rfl),
            st_plain rfl (op_bin _ _ _ _ _ rfl rfl (shl_ok hv34)),
            st_plain rfl (op_move _ _ _ _ rfl rfl),
            st_plain rfl (op_ix _ _ _ _ _ _ _ _ Try.underlying22 sz5 (by decide) rfl rfl rfl (ix_ok hv35).1 (map_lt (ix_ok hv35).2) rfl),
            st_plain rfl (op_load_e _ _ _ _ _ _ Try.underlying5 rfl rfl rfl (map_get hv36)),
            st_plain rfl ((Option.some.inj hv37) ▸ op_conv _ _ _ Try.underlying5 Try.underlying3 rfl),
            st_plain rfl (op_bin _ _ _ _ _ rfl rfl (ibind (f := Value.int .i64) (Option.some.inj hv38))),
            st_plain rfl (op_move _ _ _ _ rfl rfl),
            st_plain rfl (op_ix _ _ _ _ _ _ _ _ Try.underlying22 sz5 (by decide) rfl rfl rfl (ix_ok hv39).1 (map_lt (ix_ok hv39).2) rfl),
            st_plain rfl (op_load_e _ _ _ _ _ _ Try.underlying5 rfl rfl rfl (map_get hv40)),
            st_plain rfl ((Option.some.inj hv41) ▸ op_conv _ _ _ Try.underlying5 Try.underlying3 rfl),
            st_plain rfl (op_move _ _ _ _ rfl rfl),
            st_plain rfl (op_sl _ _ _ 7 (v7.length : Int) _ Try.underlying22 sz5 rfl rfl ⟨_, rfl⟩ rfl hv42),
            st_plain rfl (op_app_nil _ _ _ _ el22 rfl rfl (map_len _) hv43 (congrArg (List.map _) (app_nil_eq hv43))),
            st_plain rfl (op_build _ _ _ _ [1, 1, 1, 1, 1] _ _ Try.underlying24 zr24 (fs24 _ Try.underlying24) (.copy _ (.copy _ (.copy _ (.copy _ (.take _ _ Src.nil))))) rfl rfl rfl),
            st_plain rfl (op_alloc _ _ zr24),
            st_plain rfl (op_store_take _ _ _ _ _ _ _ _ sz24 rfl rfl rfl (Nat.le_of_ble_eq_true rfl) rfl rfl),
            trivial⟩ ?_
        refine pt_then ?_
        refine ht_seq ?_
        refine ht_seq ?_
        refine ht_joinS h (fun (s48 : Bool) => [(2, .box 24 [.v (.int .i64 0), .v (.int .i64 0), .v (.int .i64 0), .v (.int .i64 0), .v (.slice none 0 0)]), (6, .box 24 [.v (.int .i64 v22), .v (.int .i64 v30), .v (.int .i64 v38), .v (.int .i64 v41), .fl (.own 5) 1 (List.map (Value.int .u8) v43)]), (84, .v (.bool s48))]) ?_ ?_
        · rintro s48 h
          refine pt_then ?_
          refine ht_cond _ rfl (fun hb52 => ?_) (fun hb52 => ?_)
          · have h := cond_t hb52 h
            refine ht_seq ?_
            refine ht_seqR hn (El := [_, _, _, (85, .agg [.v (.int .i64 0), .v (.int .i64 0), .v (.int .i64 0), .v (.int .i64 0), .v (.slice none 0 0)]), (2, .box 24 [.v (.int .i64 0), .v (.int .i64 0), .v (.int .i64 0), .v (.int .i64 0), .v (.slice none 0 0)]), (3, .v (.int .i64 3))]) (init := [0, 1, 2]) (fin := [4, 5]) (sps := [⟨[], [], [3], [(.slot 85)]⟩, ⟨[3], [0], [4], [.cell 2 0, .cell 2 1, .cell 2 2, .cell 2 3, .cell 2 4]⟩, ⟨[], [], [5], [(.slot 3)]⟩]) (es' := [(2, .box 24 [.v (.int .i64 0), .v (.int .i64 0), .v (.int .i64 0), .v (.int .i64 0), .v (.slice none 0 0)]), (3, .v (.int .i64 3))]) (by kernel_rfl) rfl rfl
              ⟨st_plain rfl (op_build _ _ _ _ [1, 1, 1, 1, 1] _ _ Try.underlying24 zr24 (fs24 _ Try.underlying24) Src.nil rfl rfl rfl),
                st_plain rfl (op_store _ _ _ _ _ _ _ _ sz24 rfl rfl rfl rfl (Nat.le_of_ble_eq_true rfl) rfl rfl),
                st_plain rfl (op_assign _ _ _ _ rfl rfl),
                trivial⟩ ?_
            refine pt_then ?_
            refine ht_ret ?_
            refine pt_sub (fs := [(2, .box 24 [.v (.int .i64 0), .v (.int .i64 0), .v (.int .i64 0), .v (.int .i64 0), .fl (.own 5) 1 (List.map (Value.int .u8) [])]), (3, .v (.int .i64 3))]) (.box _ _ (subs_cons (sub_refl _) (subs_cons (sub_refl _) (subs_cons (sub_refl _) (subs_cons (sub_refl _) (subs_cons (sub_nil 5 1) (subs_nil)))))) rfl (.same _ .nil)) ?_
            refine pt_r_then ?_
            obtain rfl := Option.some.inj h
            exact pt_ret hio rfl (.cellA _ _ _ _ Try.underlying24 rfl sz24 (.tmp _ _ .nil)) rfl rfl
          · have h := cond_f hb52 h
            refine ht_skip ?_
            refine pt_then ?_
            refine ht_seq ?_
            refine ht_seqR hn (El := [_, _, _, (86, .agg [.v (.int .i64 v22), .v (.int .i64 v30), .v (.int .i64 v38), .v (.int .i64 v41), .fl (.own 5) 1 (List.map (Value.int .u8) v43)]), (2, .box 24 [.v (.int .i64 v22), .v (.int .i64 v30), .v (.int .i64 v38), .v (.int .i64 v41), .fl (.own 5) 1 (List.map (Value.int .u8) v43)]), (3, .v (.int .i64 0))]) (init := [0, 1, 2]) (fin := [4, 5]) (sps := [⟨[], [1], [3], [(.slot 86)]⟩, ⟨[], [3, 0], [4], [.cell 2 0, .cell 2 1, .cell 2 2, .cell 2 3, .cell 2 4]⟩, ⟨[], [], [5], [(.slot 3)]⟩]) (es' := [(2, .box 24 [.v (.int .i64 v22), .v (.int .i64 v30), .v (.int .i64 v38), .v (.int .i64 v41), .fl (.own 5) 1 (List.map (Value.int .u8) v43)]), (3, .v (.int .i64 0))]) (by kernel_rfl) rfl rfl
              ⟨st_plain rfl (op_loadA_take _ _ _ _ Try.underlying24 rfl sz24 rfl rfl),
                st_plain rfl (op_store_take _ _ _ _ _ _ _ _ sz24 rfl rfl rfl (Nat.le_of_ble_eq_true rfl) rfl rfl),
                st_plain rfl (op_assign _ _ _ _ rfl rfl),
                trivial⟩ ?_
            refine pt_then ?_
            refine ht_ret ?_
            obtain rfl := Option.some.inj h
            exact pt_ret hio rfl (.cellA _ _ _ _ Try.underlying24 rfl sz24 (.tmp _ _ .nil)) rfl rfl
        · intro u49 h hl50 hr51
          obtain ⟨v44, hv44, h⟩ := bind_some h
          obtain ⟨v45, hv45, h⟩ := bind_some h
          obtain ⟨v46, hv46, h⟩ := bind_some h
          refine cond_some h (fun hg7_8 h => ?_) (fun hg7_8 h => ?_)
          · refine ht_anyR (by kernel_rfl) hn (El := (_ :: _ :: _ :: (72, .fl .shr 1 (List.map (Value.int .u8) v7)) :: (73, .eref (.slot 72) (v44 * 1)) :: (74, .v (.int .u8 v45)) :: (75, .v (.int .i64 v46)) :: (76, .ptr 6 4) :: (77, .same (.cell 6 4)) :: (78, .v (.int .i64 (v43.length : Int))) :: (79, .v (.bool ((v46 != (v43.length : Int))))) :: (80, .v (.bool true)) :: (81, .v undef) :: (82, .v undef) :: (83, .v undef) :: (84, .v (.bool true)) :: [])) (init := [0, 1, 2]) (fin := [0, 2, 15]) (sps := [⟨[1], [], [3], [(.slot 72)]⟩, ⟨[3], [], [4], [(.slot 73)]⟩, ⟨[4, 3], [], [5], [(.slot 74)]⟩, ⟨[5], [], [6], [(.slot 75)]⟩, ⟨[2], [], [7], [(.slot 76)]⟩, ⟨[7, 2], [], [8], [(.slot 77)]⟩, ⟨[8, 2], [], [9], [(.slot 78)]⟩, ⟨[6, 9], [], [10], [(.slot 79)]⟩, ⟨[10], [], [11], [(.slot 80)]⟩, ⟨[11], [], [12], [(.slot 81)]⟩, ⟨[11], [], [13], [(.slot 82)]⟩, ⟨[11], [], [14], [(.slot 83)]⟩, ⟨[11], [], [15], [(.slot 84)]⟩]) (es' := [(_, _), (_, _), (84, .v (.bool true))]) (by kernel_rfl) rfl rfl
              ⟨st_plain rfl (op_move _ _ _ _ rfl rfl),
                st_plain rfl (op_ix _ _ _ _ _ _ _ _ Try.underlying22 sz5 (by decide) rfl rfl rfl (ix_ok hv44).1 (map_lt (ix_ok hv44).2) rfl),
                st_plain rfl (op_load_e _ _ _ _ _ _ Try.underlying5 rfl rfl rfl (map_get hv45)),
                st_plain rfl ((Option.some.inj hv46) ▸ op_conv _ _ _ Try.underlying5 Try.underlying3 rfl),
                st_plain rfl (op_fieldAddr _ _ _ _ 6 0 _ Try.underlying24 rfl sz22 rfl rfl (by decide)),
                st_plain rfl (op_load _ _ _ _ _ _ Try.underlying22 rfl rfl rfl (Nat.le_of_ble_eq_true rfl) rfl rfl rfl),
                st_plain rfl (op_len_fl _ _ _ Try.underlying22 rfl (by decide) (map_len _)),
                st_plain rfl (op_bin _ _ _ _ _ rfl rfl rfl),
                st_plain rfl (op_move _ _ _ _ (congrArg (fun b => AV.v (Value.bool b)) hg7_8) rfl),
                st_skip 8 80 _ false rfl rfl rfl rfl (List.Mem.head _),
                st_skip 8 80 _ false rfl rfl rfl rfl (List.Mem.head _),
                st_skip 8 80 _ false rfl rfl rfl rfl (List.Mem.head _),
                st_plain rfl (op_pick _ _ true _ rfl rfl),
                trivial⟩ ?_
            exact hl50 _ (Option.some.inj h).symm
          · obtain ⟨v47, hv47, h⟩ := bind_some h
            refine ht_anyR (by kernel_rfl) hn (El := (_ :: _ :: _ :: (72, .fl .shr 1 (List.map (Value.int .u8) v7)) :: (73, .eref (.slot 72) (v44 * 1)) :: (74, .v (.int .u8 v45)) :: (75, .v (.int .i64 v46)) :: (76, .ptr 6 4) :: (77, .same (.cell 6 4)) :: (78, .v (.int .i64 (v43.length : Int))) :: (79, .v (.bool ((v46 != (v43.length : Int))))) :: (80, .v (.bool false)) :: (81, .agg [.v (.int .i64 v22), .v (.int .i64 v30), .v (.int .i64 v38), .v (.int .i64 v41), .same (.cell 6 4)]) :: (82, .v (.int .i64 v47)) :: (83, .v (.bool (v47 != 0))) :: (84, .v (.bool (v47 != 0))) :: [])) (init := [0, 1, 2]) (fin := [0, 2, 15]) (sps := [⟨[1], [], [3], [(.slot 72)]⟩, ⟨[3], [], [4], [(.slot 73)]⟩, ⟨[4, 3], [], [5], [(.slot 74)]⟩, ⟨[5], [], [6], [(.slot 75)]⟩, ⟨[2], [], [7], [(.slot 76)]⟩, ⟨[7, 2], [], [8], [(.slot 77)]⟩, ⟨[8, 2], [], [9], [(.slot 78)]⟩, ⟨[6, 9], [], [10], [(.slot 79)]⟩, ⟨[10], [], [11], [(.slot 80)]⟩, ⟨[11, 2], [], [12], [(.slot 81)]⟩, ⟨[11, 12, 2], [], [13], [(.slot 82)]⟩, ⟨[11, 13], [], [14], [(.slot 83)]⟩, ⟨[11, 14], [], [15], [(.slot 84)]⟩]) (es' := [(_, _), (_, _), (84, .v (.bool (v47 != 0)))]) (by kernel_rfl) rfl rfl
              ⟨st_plain rfl (op_move _ _ _ _ rfl rfl),
                st_plain rfl (op_ix _ _ _ _ _ _ _ _ Try.underlying22 sz5 (by decide) rfl rfl rfl (ix_ok hv44).1 (map_lt (ix_ok hv44).2) rfl),
                st_plain rfl (op_load_e _ _ _ _ _ _ Try.underlying5 rfl rfl rfl (map_get hv45)),
                st_plain rfl ((Option.some.inj hv46) ▸ op_conv _ _ _ Try.underlying5 Try.underlying3 rfl),
                st_plain rfl (op_fieldAddr _ _ _ _ 6 0 _ Try.underlying24 rfl sz22 rfl rfl (by decide)),
                st_plain rfl (op_load _ _ _ _ _ _ Try.underlying22 rfl rfl rfl (Nat.le_of_ble_eq_true rfl) rfl rfl rfl),
                st_plain rfl (op_len_fl _ _ _ Try.underlying22 rfl (by decide) (map_len _)),
                st_plain rfl (op_bin _ _ _ _ _ rfl rfl rfl),
                st_plain rfl (op_move _ _ _ _ (congrArg (fun b => AV.v (Value.bool b)) hg7_8) rfl),
                st_run 8 80 false rfl rfl rfl (List.Mem.head _) (op_loadA _ _ _ _ _ _ _ Try.underlying24 rfl sz24 rfl rfl (Nat.le_of_ble_eq_true rfl) rfl rfl),
                st_run 8 80 false rfl rfl rfl (List.Mem.head _) (op_call _ _ 16 _ _ rfl Try.call16 rfl (ok_frame_Check (T_Frame.mk v22 v30 v38 v41 v43) _ hv47) rfl rfl),
                st_run 8 80 false rfl rfl rfl (List.Mem.head _) (op_bin _ _ _ _ _ rfl rfl rfl),
                st_plain rfl (op_pick _ _ false _ rfl rfl),
                trivial⟩ ?_
            exact hl50 _ (Option.some.inj h).symm
  · intro u2 h hl3 hr4
    refine cond_some h (fun hg1_3 h => ?_) (fun hg1_3 h => ?_)
    · refine ht_seqR hn (El := [_, _, (7, .fl .shr 1 (List.map (Value.int .u8) b)), (8, .v (.int .i64 (b.length : Int))), (9, .v (.bool ((decide ((b.length : Int) < 9))))), (10, .v (.bool true)), (11, .v undef), (12, .v undef), (13, .v undef), (14, .v (.bool true))]) (init := [0, 1]) (fin := [0, 1, 9]) (sps := [⟨[0], [], [2], [(.slot 7)]⟩, ⟨[2], [], [3], [(.slot 8)]⟩, ⟨[3], [], [4], [(.slot 9)]⟩, ⟨[4], [], [5], [(.slot 10)]⟩, ⟨[5], [], [6], [(.slot 11)]⟩, ⟨[5], [], [7], [(.slot 12)]⟩, ⟨[5], [], [8], [(.slot 13)]⟩, ⟨[5], [], [9], [(.slot 14)]⟩]) (es' := [(_, _), (_, _), (14, .v (.bool true))]) (by kernel_rfl) rfl rfl
        ⟨st_plain rfl (op_move _ _ _ _ rfl rfl),
          st_plain rfl (op_len_fl _ _ _ Try.underlying22 rfl (by decide) (map_len _)),
          st_plain rfl (op_bin _ _ _ _ _ rfl rfl rfl),
          st_plain rfl (op_move _ _ _ _ (congrArg (fun b => AV.v (Value.bool b)) hg1_3) rfl),
          st_skip 3 10 _ false rfl rfl rfl rfl (List.Mem.head _),
          st_skip 3 10 _ false rfl rfl rfl rfl (List.Mem.head _),
          st_skip 3 10 _ false rfl rfl rfl rfl (List.Mem.head _),
          st_plain rfl (op_pick _ _ true _ rfl rfl),
          trivial⟩ ?_
      exact hl3 _ (Option.some.inj h).symm
    · refine ht_seqR hn (El := [_, _, (7, .fl .shr 1 (List.map (Value.int .u8) b)), (8, .v (.int .i64 (b.length : Int))), (9, .v (.bool ((decide ((b.length : Int) < 9))))), (10, .v (.bool false)), (11, .fl .shr 1 (List.map (Value.int .u8) b)), (12, .v (.int .i64 (b.length : Int))), (13, .v (.bool ((decide (57 < (b.length : Int)))))), (14, .v (.bool ((decide (57 < (b.length : Int))))))]) (init := [0, 1]) (fin := [0, 1, 9]) (sps := [⟨[0], [], [2], [(.slot 7)]⟩, ⟨[2], [], [3], [(.slot 8)]⟩, ⟨[3], [], [4], [(.slot 9)]⟩, ⟨[4], [], [5], [(.slot 10)]⟩, ⟨[5, 0], [], [6], [(.slot 11)]⟩, ⟨[5, 6], [], [7], [(.slot 12)]⟩, ⟨[5, 7], [], [8], [(.slot 13)]⟩, ⟨[5, 8], [], [9], [(.slot 14)]⟩]) (es' := [(_, _), (_, _), (14, .v (.bool ((decide (57 < (b.length : Int))))))]) (by kernel_rfl) rfl rfl
        ⟨st_plain rfl (op_move _ _ _ _ rfl rfl),
          st_plain rfl (op_len_fl _ _ _ Try.underlying22 rfl (by decide) (map_len _)),
          st_plain rfl (op_bin _ _ _ _ _ rfl rfl rfl),
          st_plain rfl (op_move _ _ _ _ (congrArg (fun b => AV.v (Value.bool b)) hg1_3) rfl),
          st_run 3 10 false rfl rfl rfl (List.Mem.head _) (op_move _ _ _ _ rfl rfl),
          st_run 3 10 false rfl rfl rfl (List.Mem.head _) (op_len_fl _ _ _ Try.underlying22 rfl (by decide) (map_len _)),
          st_run 3 10 false rfl rfl rfl (List.Mem.head _) (op_bin _ _ _ _ _ rfl rfl rfl),
          st_plain rfl (op_pick _ _ false _ rfl rfl),
          trivial⟩ ?_
      exact hl3 _ (Option.some.inj h).symm

set_option maxHeartbeats 1000000 in
theorem ok_wherryref18_in (n : Int) (lo : Int) (hi : Int) (r : Bool) (h : Sh.wherryref18_in n lo hi = some r) : FnOK Try.prog 25 [.v (.int .i64 n), .v (.int .i64 lo), .v (.int .i64 hi)] (.v (.bool r)) := by
  unfold Sh.wherryref18_in at h
  refine fn_ok Try.func25 rfl (Nat.le_of_ble_eq_true rfl) rfl rfl fun g0 hn hio => ?_
  refine ht_seq ?_
  refine ht_seqR hn (El := [_, _, _, (6, .v (.bool false))]) (init := [0, 1, 2]) (fin := [0, 1, 2]) (sps := [⟨[], [], [3], [(.slot 6)]⟩]) (es' := [(_, _), (_, _), (_, _)]) (by kernel_rfl) rfl rfl
    ⟨st_plain rfl (op_assign _ _ _ _ rfl rfl),
      trivial⟩ ?_
  refine pt_then ?_
  refine ht_seq ?_
  refine ht_joinS h (fun (s1 : Bool) => [(6, .v (.bool s1))]) ?_ ?_
  · rintro s1 h
    refine pt_then ?_
    refine ht_ret ?_
    obtain rfl := Option.some.inj h
    exact pt_ret hio rfl (.tmp _ _ .nil) rfl rfl
  · intro u2 h hl3 hr4
    refine cond_some h (fun hg1_3 h => ?_) (fun hg1_3 h => ?_)
    · refine ht_seqR hn (El := [_, _, _, (7, .v (.int .i64 n)), (8, .v (.int .i64 lo)), (9, .v (.bool ((decide (lo ≤ n))))), (10, .v (.bool true)), (11, .v (.int .i64 n)), (12, .v (.int .i64 hi)), (13, .v (.bool ((decide (n ≤ hi))))), (14, .v (.bool ((decide (n ≤ hi))))), (6, .v (.bool ((decide (n ≤ hi)))))]) (init := [0, 1, 2]) (fin := [11]) (sps := [⟨[0], [], [3], [(.slot 7)]⟩, ⟨[1], [], [4], [(.slot 8)]⟩, ⟨[3, 4], [], [5], [(.slot 9)]⟩, ⟨[5], [], [6], [(.slot 10)]⟩, ⟨[6, 0], [], [7], [(.slot 11)]⟩, ⟨[6, 2], [], [8], [(.slot 12)]⟩, ⟨[6, 7, 8], [], [9], [(.slot 13)]⟩, ⟨[6, 9], [], [10], [(.slot 14)]⟩, ⟨[10], [], [11], [(.slot 6)]⟩]) (es' := [(6, .v (.bool ((decide (n ≤ hi)))))]) (by kernel_rfl) rfl rfl
        ⟨st_plain rfl (op_move _ _ _ _ rfl rfl),
          st_plain rfl (op_move _ _ _ _ rfl rfl),
          st_plain rfl (op_bin _ _ _ _ _ rfl rfl rfl),
          st_plain rfl (op_move _ _ _ _ (congrArg (fun b => AV.v (Value.bool b)) hg1_3) rfl),
          st_run 3 10 true rfl rfl rfl (List.Mem.head _) (op_move _ _ _ _ rfl rfl),
          st_run 3 10 true rfl rfl rfl (List.Mem.head _) (op_move _ _ _ _ rfl rfl),
          st_run 3 10 true rfl rfl rfl (List.Mem.head _) (op_bin _ _ _ _ _ rfl rfl rfl),
          st_plain rfl (op_pick _ _ true _ rfl rfl),
          st_plain rfl (op_assign _ _ _ _ rfl rfl),
          trivial⟩ ?_
      exact hl3 _ (Option.some.inj h).symm
    · refine ht_seqR hn (El := [_, _, _, (7, .v (.int .i64 n)), (8, .v (.int .i64 lo)), (9, .v (.bool ((decide (lo ≤ n))))), (10, .v (.bool false)), (11, .v undef), (12, .v undef), (13, .v undef), (14, .v (.bool false)), (6, .v (.bool false))]) (init := [0, 1, 2]) (fin := [11]) (sps := [⟨[0], [], [3], [(.slot 7)]⟩, ⟨[1], [], [4], [(.slot 8)]⟩, ⟨[3, 4], [], [5], [(.slot 9)]⟩, ⟨[5], [], [6], [(.slot 10)]⟩, ⟨[6], [], [7], [(.slot 11)]⟩, ⟨[6], [], [8], [(.slot 12)]⟩, ⟨[6], [], [9], [(.slot 13)]⟩, ⟨[6], [], [10], [(.slot 14)]⟩, ⟨[10], [], [11], [(.slot 6)]⟩]) (es' := [(6, .v (.bool false))]) (by kernel_rfl) rfl rfl
        ⟨st_plain rfl (op_move _ _ _ _ rfl rfl),
          st_plain rfl (op_move _ _ _ _ rfl rfl),
          st_plain rfl (op_bin _ _ _ _ _ rfl rfl rfl),
          st_plain rfl (op_move _ _ _ _ (congrArg (fun b => AV.v (Value.bool b)) hg1_3) rfl),
          st_skip 3 10 _ true rfl rfl rfl rfl (List.Mem.head _),
          st_skip 3 10 _ true rfl rfl rfl rfl (List.Mem.head _),
          st_skip 3 10 _ true rfl rfl rfl rfl (List.Mem.head _),
          st_plain rfl (op_pick _ _ false _ rfl rfl),
          st_plain rfl (op_assign _ _ _ _ rfl rfl),
          trivial⟩ ?_
      exact hl3 _ (Option.some.inj h).symm

set_option maxHeartbeats 1000000 in
theorem ok_wherryref08_Carry (b : (List Int)) (width : Int) (divisor : Int) (r : Int) (h : Sh.wherryref08_Carry b width divisor = some r) : FnOK Try.prog 28 [.fl .shr 1 (List.map (Value.int .u8) b), .v (.int .i64 width), .v (.int .i64 divisor)] (.v (.int .i64 r)) := by
  unfold Sh.wherryref08_Carry at h
  refine fn_ok Try.func28 rfl (Nat.le_of_ble_eq_true rfl) rfl rfl fun g0 hn hio => ?_
  refine ht_seq ?_
  refine ht_seqR hn (El := [_, _, _, (6, .v (.int .i64 0))]) (init := [0, 1, 2]) (fin := [0, 1, 2]) (sps := [⟨[], [], [3], [(.slot 6)]⟩]) (es' := [(_, _), (_, _), (_, _)]) (by kernel_rfl) rfl rfl
    ⟨st_plain rfl (op_assign _ _ _ _ rfl rfl),
      trivial⟩ ?_
  refine pt_then ?_
  refine ht_seq ?_
  obtain ⟨v1, hv1, h⟩ := bind_some h
  obtain ⟨v2, hv2, h⟩ := bind_some h
  obtain ⟨v3, hv3, h⟩ := bind_some h
  refine ht_seqR hn (El := [_, _, _, (11, .v (.int .i64 width)), (12, .v (.int .u64 v1)), (13, .v (.int .i64 v2)), (14, .v (.int .i64 v3)), (7, .v (.int .i64 v3))]) (init := [0, 1, 2]) (fin := [0, 1, 2, 7]) (sps := [⟨[1], [], [3], [(.slot 11)]⟩, ⟨[3], [], [4], [(.slot 12)]⟩, ⟨[4], [], [5], [(.slot 13)]⟩, ⟨[5], [], [6], [(.slot 14)]⟩, ⟨[6], [], [7], [(.slot 7)]⟩]) (es' := [(_, _), (_, _), (_, _), (7, .v (.int .i64 v3))]) (by kernel_rfl) rfl rfl
    ⟨st_plain rfl (op_move _ _ _ _ rfl rfl),
      st_plain rfl ((Option.some.inj hv1) ▸ op_conv _ _ _ Try.underlying3 Try.underlying43 rfl),
      st_plain rfl (op_bin _ _ _ _ _ rfl rfl (shl_ok hv2)),
      st_plain rfl (op_bin _ _ _ _ _ rfl rfl (ibind (f := Value.int .i64) (Option.some.inj hv3))),
      st_plain rfl (op_assign _ _ _ _ rfl rfl),
      trivial⟩ ?_
  refine pt_then ?_
  refine ht_seq ?_
  refine ht_seq ?_
  refine ht_seqR hn (El := [_, _, _, _, (8, .v (.int .i64 0))]) (init := [0, 1, 2, 3]) (fin := [0, 1, 2, 3, 4]) (sps := [⟨[], [], [4], [(.slot 8)]⟩]) (es' := [(_, _), (_, _), (_, _), (_, _), (8, .v (.int .i64 0))]) (by kernel_rfl) rfl rfl
    ⟨st_plain rfl (op_assign _ _ _ _ rfl rfl),
      trivial⟩ ?_
  refine pt_then ?_
  refine ht_loopS h (fun ((s97, s98) : Int × Int) => [(0, .fl .shr 1 (List.map (Value.int .u8) b)), (1, .v (.int .i64 width)), (2, .v (.int .i64 divisor)), (7, .v (.int .i64 s97)), (8, .v (.int .i64 s98))]) (fun (s139 : Int) => [(1, .v (.int .i64 width)), (7, .v (.int .i64 s139))]) ?_ ?_
  · rintro s139 h
    refine pt_then ?_
    refine ht_seq ?_
    obtain ⟨v186, hv186, h⟩ := bind_some h
    obtain ⟨v187, hv187, h⟩ := bind_some h
    obtain ⟨v188, hv188, h⟩ := bind_some h
    obtain ⟨v189, hv189, h⟩ := bind_some h
    refine ht_seqR hn (El := [_, _, (43, .v (.int .i64 s139)), (44, .v (.int .i64 width)), (45, .v (.int .u64 v186)), (46, .v (.int .i64 v187)), (47, .v (.int .i64 v188)), (48, .v (.int .i64 v189)), (6, .v (.int .i64 v189))]) (init := [0, 1]) (fin := [8]) (sps := [⟨[1], [], [2], [(.slot 43)]⟩, ⟨[0], [], [3], [(.slot 44)]⟩, ⟨[3], [], [4], [(.slot 45)]⟩, ⟨[4], [], [5], [(.slot 46)]⟩, ⟨[5], [], [6], [(.slot 47)]⟩, ⟨[2, 6], [], [7], [(.slot 48)]⟩, ⟨[7], [], [8], [(.slot 6)]⟩]) (es' := [(6, .v (.int .i64 v189))]) (by kernel_rfl) rfl rfl
      ⟨st_plain rfl (op_move _ _ _ _ rfl rfl),
        st_plain rfl (op_move _ _ _ _ rfl rfl),
        st_plain rfl ((Option.some.inj hv186) ▸ op_conv _ _ _ Try.underlying3 Try.underlying43 rfl),
        st_plain rfl (op_bin _ _ _ _ _ rfl rfl (shl_ok hv187)),
        st_plain rfl (op_bin _ _ _ _ _ rfl rfl (ibind (f := Value.int .i64) (Option.some.inj hv188))),
        st_plain rfl (op_bin _ _ _ _ _ rfl rfl (ibind (f := Value.int .i64) (Option.some.inj hv189))),
        st_plain rfl (op_assign _ _ _ _ rfl rfl),
        trivial⟩ ?_
    refine pt_then ?_
    refine ht_ret ?_
    obtain rfl := Option.some.inj h
    exact pt_ret hio rfl (.tmp _ _ .nil) rfl rfl
  · rintro u140 hl141 hr142 ⟨s97, s98⟩ rr145 h ho143
    refine ht_seq ?_
    refine ht_seq ?_
    refine ht_seqR hn (El := [_, _, _, _, _, (15, .v (.int .i64 s98)), (16, .fl .shr 1 (List.map (Value.int .u8) b)), (17, .v (.int .i64 (b.length : Int))), (18, .v (.bool ((decide (s98 < (b.length : Int))))))]) (init := [0, 1, 2, 3, 4]) (fin := [0, 1, 2, 3, 4, 8]) (sps := [⟨[4], [], [5], [(.slot 15)]⟩, ⟨[0], [], [6], [(.slot 16)]⟩, ⟨[6], [], [7], [(.slot 17)]⟩, ⟨[5, 7], [], [8], [(.slot 18)]⟩]) (es' := [(_, _), (_, _), (_, _), (_, _), (_, _), (18, .v (.bool ((decide (s98 < (b.length : Int))))))]) (by kernel_rfl) rfl rfl
      ⟨st_plain rfl (op_move _ _ _ _ rfl rfl),
        st_plain rfl (op_move _ _ _ _ rfl rfl),
        st_plain rfl (op_len_fl _ _ _ Try.underlying22 rfl (by decide) (map_len _)),
        st_plain rfl (op_bin _ _ _ _ _ rfl rfl rfl),
        trivial⟩ ?_
    refine pt_then ?_
    refine ht_cond _ rfl (fun hb146 => ?_) (fun hb146 => ?_)
    · have h := cond_t hb146 h
      refine ht_skip ?_
      refine pt_then ?_
      refine ht_seq ?_
      refine ht_block ?_
      refine ht_seq ?_
      refine ht_seqR hn (El := [_, _, _, _, _, _, (9, .v (.int .i64 0))]) (init := [0, 1, 2, 3, 4, 5]) (fin := [0, 1, 2, 3, 4, 6]) (sps := [⟨[], [], [6], [(.slot 9)]⟩]) (es' := [(_, _), (_, _), (_, _), (_, _), (_, _), (9, .v (.int .i64 0))]) (by kernel_rfl) rfl rfl
        ⟨st_plain rfl (op_assign _ _ _ _ rfl rfl),
          trivial⟩ ?_
      refine pt_then ?_
      refine ht_loopS h (fun ((s163, s164) : Int × Int) => [(0, .fl .shr 1 (List.map (Value.int .u8) b)), (1, .v (.int .i64 width)), (2, .v (.int .i64 divisor)), (7, .v (.int .i64 s163)), (8, .v (.int .i64 s98)), (9, .v (.int .i64 s164))]) (fun (s172 : Int) => [(0, .fl .shr 1 (List.map (Value.int .u8) b)), (1, .v (.int .i64 width)), (2, .v (.int .i64 divisor)), (7, .v (.int .i64 s172)), (8, .v (.int .i64 s98))]) ?_ ?_
      · rintro s172 h
        refine pt_inb ?_
        refine pt_then ?_
        obtain ⟨v54, hv54, h⟩ := bind_some h
        refine ht_seqR hn (El := [_, _, _, _, _, (19, .v (.int .i64 s98)), (20, .v (.int .i64 v54)), (8, .v (.int .i64 v54))]) (init := [0, 1, 2, 3, 4]) (fin := [0, 1, 2, 3, 7]) (sps := [⟨[4], [], [5], [(.slot 19)]⟩, ⟨[5], [], [6], [(.slot 20)]⟩, ⟨[6], [4], [7], [(.slot 8)]⟩]) (es' := [(_, _), (_, _), (_, _), (_, _), (8, .v (.int .i64 v54))]) (by kernel_rfl) rfl rfl
          ⟨st_plain rfl (op_move _ _ _ _ rfl rfl),
            st_plain rfl (op_bin _ _ _ _ _ rfl rfl (ibind (f := Value.int .i64) (Option.some.inj hv54))),
            st_plain rfl (LOp.drop [_] (op_assign _ _ _ _ rfl rfl)),
            trivial⟩ ?_
        exact pt_next _ (Option.some.inj h).symm rfl
      · rintro u173 hl174 hr175 ⟨s163, s164⟩ rr178 h ho176
        refine ht_seq ?_
        refine ht_seq ?_
        refine ht_seqR hn (El := [_, _, _, _, _, _, (21, .v (.int .i64 s164)), (22, .v (.bool ((decide (s164 < 8)))))]) (init := [0, 1, 2, 3, 4, 5]) (fin := [0, 1, 2, 3, 4, 5, 7]) (sps := [⟨[5], [], [6], [(.slot 21)]⟩, ⟨[6], [], [7], [(.slot 22)]⟩]) (es' := [(_, _), (_, _), (_, _), (_, _), (_, _), (_, _), (22, .v (.bool ((decide (s164 < 8)))))]) (by kernel_rfl) rfl rfl
          ⟨st_plain rfl (op_move _ _ _ _ rfl rfl),
            st_plain rfl (op_bin _ _ _ _ _ rfl rfl rfl),
            trivial⟩ ?_
        refine pt_then ?_
        refine ht_cond _ rfl (fun hb179 => ?_) (fun hb179 => ?_)
        · have h := cond_t hb179 h
          refine ht_skip ?_
          refine pt_then ?_
          refine ht_seq ?_
          refine ht_joinS h (fun (s181 : Int) => [(0, .fl .shr 1 (List.map (Value.int .u8) b)), (1, .v (.int .i64 width)), (2, .v (.int .i64 divisor)), (8, .v (.int .i64 s98)), (9, .v (.int .i64 s164)), (7, .v (.int .i64 s181))]) ?_ ?_
          · rintro s181 h
            refine pt_then ?_
            obtain ⟨v21, hv21, h⟩ := bind_some h
            refine ht_seqR hn (El := [_, _, _, _, _, _, (23, .v (.int .i64 s164)), (24, .v (.int .i64 v21)), (9, .v (.int .i64 v21))]) (init := [0, 1, 2, 3, 4, 5]) (fin := [0, 1, 2, 3, 5, 8]) (sps := [⟨[4], [], [6], [(.slot 23)]⟩, ⟨[6], [], [7], [(.slot 24)]⟩, ⟨[7], [4], [8], [(.slot 9)]⟩]) (es' := [(_, _), (_, _), (_, _), (_, _), (_, _), (9, .v (.int .i64 v21))]) (by kernel_rfl) rfl rfl
              ⟨st_plain rfl (op_move _ _ _ _ rfl rfl),
                st_plain rfl (op_bin _ _ _ _ _ rfl rfl (ibind (f := Value.int .i64) (Option.some.inj hv21))),
                st_plain rfl (LOp.drop [_] (op_assign _ _ _ _ rfl rfl)),
                trivial⟩ ?_
            refine pt_pick [0, 1, 2, 4, 3, 5] (by kernel_rfl) (es' := [(_, _), (_, _), (_, _), (_, _), (_, _), (_, _)]) rfl ?_
            exact pt_next _ (Option.some.inj h).symm rfl
          · intro u182 h hl183 hr184
            refine ht_block ?_
            refine ht_seq ?_
            obtain ⟨v6, hv6, h⟩ := bind_some h
            refine ht_seqR hn (El := [_, _, _, _, _, _, _, (25, .v (.int .i64 s163)), (26, .v (.int .i64 v6)), (10, .v (.int .i64 v6))]) (init := [0, 1, 2, 3, 4, 5, 6]) (fin := [0, 1, 2, 3, 4, 5, 9]) (sps := [⟨[3], [], [7], [(.slot 25)]⟩, ⟨[7], [], [8], [(.slot 26)]⟩, ⟨[8], [], [9], [(.slot 10)]⟩]) (es' := [(_, _), (_, _), (_, _), (_, _), (_, _), (_, _), (10, .v (.int .i64 v6))]) (by kernel_rfl) rfl rfl
              ⟨st_plain rfl (op_move _ _ _ _ rfl rfl),
                st_plain rfl (op_bin _ _ _ _ _ rfl rfl (ibind (f := Value.int .i64) (Option.some.inj hv6))),
                st_plain rfl (op_assign _ _ _ _ rfl rfl),
                trivial⟩ ?_
            refine pt_then ?_
            refine ht_seq ?_
            obtain ⟨v7, hv7, h⟩ := bind_some h
            refine ht_seqR hn (El := [_, _, _, _, _, _, _, (27, .v (.int .i64 s163)), (28, .v (.int .i64 v7)), (7, .v (.int .i64 v7))]) (init := [0, 1, 2, 3, 4, 5, 6]) (fin := [0, 1, 2, 4, 5, 6, 9]) (sps := [⟨[3], [], [7], [(.slot 27)]⟩, ⟨[7], [], [8], [(.slot 28)]⟩, ⟨[8], [3], [9], [(.slot 7)]⟩]) (es' := [(_, _), (_, _), (_, _), (_, _), (_, _), (_, _), (7, .v (.int .i64 v7))]) (by kernel_rfl) rfl rfl
              ⟨st_plain rfl (op_move _ _ _ _ rfl rfl),
                st_plain rfl (op_bin _ _ _ _ _ rfl rfl (shr_ok hv7)),
                st_plain rfl (LOp.drop [_] (op_assign _ _ _ _ rfl rfl)),
                trivial⟩ ?_
            refine pt_then ?_
            refine ht_seq ?_
            obtain ⟨v8, hv8, h⟩ := bind_some h
            obtain ⟨v9, hv9, h⟩ := bind_some h
            obtain ⟨v10, hv10, h⟩ := bind_some h
            obtain ⟨v11, hv11, h⟩ := bind_some h
            obtain ⟨v12, hv12, h⟩ := bind_some h
            obtain ⟨v13, hv13, h⟩ := bind_some h
            refine ht_seqR hn (El := (_ :: _ :: _ :: _ :: _ :: _ :: _ :: (29, .v (.int .i64 v6)) :: (30, .fl .shr 1 (List.map (Value.int .u8) b)) :: (31, .v (.int .i64 s98)) :: (32, .eref (.slot 30) (v8 * 1)) :: (33, .v (.int .u8 v9)) :: (34, .v (.int .i64 s164)) :: (35, .v (.int .u64 v10)) :: (36, .v (.int .u8 v11)) :: (37, .v (.int .i64 v12)) :: (38, .v (.int .i64 v13)) :: (39, .v (.bool (v6 != v13))) :: [])) (init := [0, 1, 2, 3, 4, 5, 6]) (fin := [0, 1, 2, 3, 4, 6, 17]) (sps := [⟨[5], [], [7], [(.slot 29)]⟩, ⟨[0], [], [8], [(.slot 30)]⟩, ⟨[3], [], [9], [(.slot 31)]⟩, ⟨[8, 9], [], [10], [(.slot 32)]⟩, ⟨[10, 8], [], [11], [(.slot 33)]⟩, ⟨[4], [], [12], [(.slot 34)]⟩, ⟨[12], [], [13], [(.slot 35)]⟩, ⟨[11, 13], [], [14], [(.slot 36)]⟩, ⟨[14], [], [15], [(.slot 37)]⟩, ⟨[15], [], [16], [(.slot 38)]⟩, ⟨[7, 16], [], [17], [(.slot 39)]⟩]) (es' := [(_, _), (_, _), (_, _), (_, _), (_, _), (_, _), (39, .v (.bool (v6 != v13)))]) (by kernel_rfl) rfl rfl
              ⟨st_plain rfl (op_move _ _ _ _ rfl rfl),
                st_plain rfl (op_move _ _ _ _ rfl rfl),
                st_plain rfl (op_move _ _ _ _ rfl rfl),
                st_plain rfl (op_ix _ _ _ _ _ _ _ _ Try.underlying22 sz5 (by decide) rfl rfl rfl (ix_ok hv8).1 (map_lt (ix_ok hv8).2) rfl),
                st_plain rfl (op_load_e _ _ _ _ _ _ Try.underlying5 rfl rfl rfl (map_get hv9)),
                st_plain rfl (op_move _ _ _ _ rfl rfl),
                st_plain rfl ((Option.some.inj hv10) ▸ op_conv _ _ _ Try.underlying3 Try.underlying43 rfl),
                st_plain rfl (op_bin _ _ _ _ _ rfl rfl (shr_ok hv11)),
                st_plain rfl ((Option.some.inj hv12) ▸ op_conv _ _ _ Try.underlying5 Try.underlying3 rfl),
                st_plain rfl (op_bin _ _ _ _ _ rfl rfl (ibind (f := Value.int .i64) (Option.some.inj hv13))),
                st_plain rfl (op_bin _ _ _ _ _ rfl rfl rfl),
                trivial⟩ ?_
            refine pt_then ?_
            refine ht_cond _ rfl (fun hb185 => ?_) (fun hb185 => ?_)
            · have h := cond_t hb185 h
              obtain ⟨v15, hv15, h⟩ := bind_some h
              refine ht_seqR hn (El := [_, _, _, _, _, _, _, (40, .v (.int .i64 v7)), (41, .v (.int .i64 divisor)), (42, .v (.int .i64 v15)), (7, .v (.int .i64 v15))]) (init := [0, 1, 2, 3, 4, 5, 6]) (fin := [0, 1, 2, 3, 4, 10]) (sps := [⟨[5], [], [7], [(.slot 40)]⟩, ⟨[2], [], [8], [(.slot 41)]⟩, ⟨[7, 8], [], [9], [(.slot 42)]⟩, ⟨[9], [5], [10], [(.slot 7)]⟩]) (es' := [(_, _), (_, _), (_, _), (_, _), (_, _), (7, .v (.int .i64 v15))]) (by kernel_rfl) rfl rfl
                ⟨st_plain rfl (op_move _ _ _ _ rfl rfl),
                  st_plain rfl (op_move _ _ _ _ rfl rfl),
                  st_plain rfl (op_bin _ _ _ _ _ rfl rfl (ibind (f := Value.int .i64) (Option.some.inj hv15))),
                  st_plain rfl (LOp.drop [_] (op_assign _ _ _ _ rfl rfl)),
                  trivial⟩ ?_
              refine pt_inb ?_
              exact hl183 _ (Option.some.inj h).symm
            · have h := cond_f hb185 h
              refine ht_skip ?_
              refine pt_inb ?_
              refine pt_pick [0, 1, 2, 3, 4, 5] (by kernel_rfl) (es' := [(_, _), (_, _), (_, _), (_, _), (_, _), (_, _)]) rfl ?_
              exact hl183 _ (Option.some.inj h).symm
        · have h := cond_f hb179 h
          refine ht_exit ?_
          refine pt_x_then ?_
          refine pt_x_then ?_
          refine pt_x_in ?_
          refine pt_pick [0, 1, 2, 3, 4] (by kernel_rfl) (es' := [(_, _), (_, _), (_, _), (_, _), (_, _)]) rfl ?_
          exact hl174 _ (ho176 _ (Option.some.inj h).symm).symm
    · have h := cond_f hb146 h
      refine ht_exit ?_
      refine pt_x_then ?_
      refine pt_x_then ?_
      refine pt_x_in ?_
      refine pt_pick [1, 3] (by kernel_rfl) (es' := [(_, _), (_, _)]) rfl ?_
      exact hl141 _ (ho143 _ (Option.some.inj h).symm).symm

set_option maxHeartbeats 1000000 in
theorem ok_wherryref08_Short (b : (List Int)) (r : Int) (h : Sh.wherryref08_Short b = some r) : FnOK Try.prog 26 [.fl .shr 1 (List.map (Value.int .u8) b)] (.v (.int .i64 r)) := by
  unfold Sh.wherryref08_Short at h
  refine fn_ok Try.func26 rfl (Nat.le_of_ble_eq_true rfl) rfl rfl fun g0 hn hio => ?_
  refine ht_seq ?_
  refine ht_seqR hn (El := [_, (2, .v (.int .i64 0))]) (init := [0]) (fin := [0]) (sps := [⟨[], [], [1], [(.slot 2)]⟩]) (es' := [(_, _)]) (by kernel_rfl) rfl rfl
    ⟨st_plain rfl (op_assign _ _ _ _ rfl rfl),
      trivial⟩ ?_
  refine pt_then ?_
  refine ht_seq ?_
  obtain ⟨v1, hv1, h⟩ := bind_some h
  refine ht_seqR hn (El := [_, (3, .fl .shr 1 (List.map (Value.int .u8) b)), (4, .v (.int .i64 v1)), (2, .v (.int .i64 v1))]) (init := [0]) (fin := [3]) (sps := [⟨[0], [], [1], [(.slot 3)]⟩, ⟨[1], [], [2], [(.slot 4)]⟩, ⟨[2], [], [3], [(.slot 2)]⟩]) (es' := [(2, .v (.int .i64 v1))]) (by kernel_rfl) rfl rfl
    ⟨st_plain rfl (op_move _ _ _ _ rfl rfl),
      st_plain rfl (op_call _ _ 28 _ _ rfl Try.call28 rfl (ok_wherryref08_Carry b 16 33800 _ hv1) rfl rfl),
      st_plain rfl (op_assign _ _ _ _ rfl rfl),
      trivial⟩ ?_
  refine pt_then ?_
  refine ht_ret ?_
  obtain rfl := Option.some.inj h
  exact pt_ret hio rfl (.tmp _ _ .nil) rfl rfl

set_option maxHeartbeats 1000000 in
theorem ok_wherrykeep_Bytes (a : (List Int)) (b : (List Int)) (r : Bool) (h : Sh.wherrykeep_Bytes a b = some r) : FnOK Try.prog 17 [.fl .shr 1 (List.map (Value.int .u8) a), .fl .shr 1 (List.map (Value.int .u8) b)] (.v (.bool r)) := by
  unfold Sh.wherrykeep_Bytes at h
  refine fn_ok Try.func17 rfl (Nat.le_of_ble_eq_true rfl) rfl rfl fun g0 hn hio => ?_
  refine ht_seq ?_
  refine ht_seqR hn (El := [_, _, (4, .v (.bool false))]) (init := [0, 1]) (fin := [0, 1]) (sps := [⟨[], [], [2], [(.slot 4)]⟩]) (es' := [(_, _), (_, _)]) (by kernel_rfl) rfl rfl
    ⟨st_plain rfl (op_assign _ _ _ _ rfl rfl),
      trivial⟩ ?_
  refine pt_then ?_
  refine ht_seq ?_
  refine ht_seq ?_
  refine ht_seqR hn (El := [_, _, (6, .fl .shr 1 (List.map (Value.int .u8) a)), (7, .v (.int .i64 (a.length : Int))), (8, .fl .shr 1 (List.map (Value.int .u8) b)), (9, .v (.int .i64 (b.length : Int))), (10, .v (.bool (((a.length : Int) != (b.length : Int)))))]) (init := [0, 1]) (fin := [0, 1, 6]) (sps := [⟨[0], [], [2], [(.slot 6)]⟩, ⟨[2], [], [3], [(.slot 7)]⟩, ⟨[1], [], [4], [(.slot 8)]⟩, ⟨[4], [], [5], [(.slot 9)]⟩, ⟨[3, 5], [], [6], [(.slot 10)]⟩]) (es' := [(_, _), (_, _), (10, .v (.bool (((a.length : Int) != (b.length : Int)))))]) (by kernel_rfl) rfl rfl
    ⟨st_plain rfl (op_move _ _ _ _ rfl rfl),
      st_plain rfl (op_len_fl _ _ _ Try.underlying22 rfl (by decide) (map_len _)),
      st_plain rfl (op_move _ _ _ _ rfl rfl),
      st_plain rfl (op_len_fl _ _ _ Try.underlying22 rfl (by decide) (map_len _)),
      st_plain rfl (op_bin _ _ _ _ _ rfl rfl rfl),
      trivial⟩ ?_
  refine pt_then ?_
  refine ht_cond _ rfl (fun hb1 => ?_) (fun hb1 => ?_)
  · have h := cond_t hb1 h
    refine ht_seq ?_
    refine ht_seqR hn (El := [_, _, _, (4, .v (.bool false))]) (init := [0, 1, 2]) (fin := [3]) (sps := [⟨[], [], [3], [(.slot 4)]⟩]) (es' := [(4, .v (.bool false))]) (by kernel_rfl) rfl rfl
      ⟨st_plain rfl (op_assign _ _ _ _ rfl rfl),
        trivial⟩ ?_
    refine pt_then ?_
    refine ht_ret ?_
    refine pt_r_then ?_
    obtain rfl := Option.some.inj h
    exact pt_ret hio rfl (.tmp _ _ .nil) rfl rfl
  · have h := cond_f hb1 h
    refine ht_skip ?_
    refine pt_then ?_
    refine ht_seq ?_
    refine ht_seq ?_
    refine ht_seqR hn (El := [_, _, _, (5, .v (.int .i64 0))]) (init := [0, 1, 2]) (fin := [0, 1, 3]) (sps := [⟨[], [], [3], [(.slot 5)]⟩]) (es' := [(_, _), (_, _), (5, .v (.int .i64 0))]) (by kernel_rfl) rfl rfl
      ⟨st_plain rfl (op_assign _ _ _ _ rfl rfl),
        trivial⟩ ?_
    refine pt_then ?_
    refine ht_loopS h (fun (s12 : Int) => [(0, .fl .shr 1 (List.map (Value.int .u8) a)), (1, .fl .shr 1 (List.map (Value.int .u8) b)), (5, .v (.int .i64 s12))]) (fun (() : Unit) => []) ?_ ?_
    · rintro ⟨⟩ h
      refine pt_then ?_
      refine ht_seq ?_
      refine ht_seqR hn (El := [(4, .v (.bool true))]) (init := []) (fin := [0]) (sps := [⟨[], [], [0], [(.slot 4)]⟩]) (es' := [(4, .v (.bool true))]) (by kernel_rfl) rfl rfl
        ⟨st_plain rfl (op_assign _ _ _ _ rfl rfl),
          trivial⟩ ?_
      refine pt_then ?_
      refine ht_ret ?_
      obtain rfl := Option.some.inj h
      exact pt_ret hio rfl (.tmp _ _ .nil) rfl rfl
    · rintro u15 hl16 hr17 s12 rr20 h ho18
      refine ht_seq ?_
      refine ht_seq ?_
      refine ht_seqR hn (El := [_, _, _, (11, .v (.int .i64 s12)), (12, .fl .shr 1 (List.map (Value.int .u8) a)), (13, .v (.int .i64 (a.length : Int))), (14, .v (.bool ((decide (s12 < (a.length : Int))))))]) (init := [0, 1, 2]) (fin := [0, 1, 2, 6]) (sps := [⟨[2], [], [3], [(.slot 11)]⟩, ⟨[0], [], [4], [(.slot 12)]⟩, ⟨[4], [], [5], [(.slot 13)]⟩, ⟨[3, 5], [], [6], [(.slot 14)]⟩]) (es' := [(_, _), (_, _), (_, _), (14, .v (.bool ((decide (s12 < (a.length : Int))))))]) (by kernel_rfl) rfl rfl
        ⟨st_plain rfl (op_move _ _ _ _ rfl rfl),
          st_plain rfl (op_move _ _ _ _ rfl rfl),
          st_plain rfl (op_len_fl _ _ _ Try.underlying22 rfl (by decide) (map_len _)),
          st_plain rfl (op_bin _ _ _ _ _ rfl rfl rfl),
          trivial⟩ ?_
      refine pt_then ?_
      refine ht_cond _ rfl (fun hb21 => ?_) (fun hb21 => ?_)
      · have h := cond_t hb21 h
        refine ht_skip ?_
        refine pt_then ?_
        refine ht_seq ?_
        refine ht_block ?_
        refine ht_seq ?_
        obtain ⟨v3, hv3, h⟩ := bind_some h
        obtain ⟨v4, hv4, h⟩ := bind_some h
        obtain ⟨v5, hv5, h⟩ := bind_some h
        obtain ⟨v6, hv6, h⟩ := bind_some h
        refine ht_anyR (by kernel_rfl) hn (El := [_, _, _, _, (17, .fl .shr 1 (List.map (Value.int .u8) a)), (18, .v (.int .i64 s12)), (19, .eref (.slot 17) (v3 * 1)), (20, .v (.int .u8 v4)), (21, .fl .shr 1 (List.map (Value.int .u8) b)), (22, .v (.int .i64 s12)), (23, .eref (.slot 21) (v5 * 1)), (24, .v (.int .u8 v6)), (25, .v (.bool (v4 != v6)))]) (init := [0, 1, 2, 3]) (fin := [0, 1, 2, 12]) (sps := [⟨[0], [], [4], [(.slot 17)]⟩, ⟨[2], [], [5], [(.slot 18)]⟩, ⟨[4, 5], [], [6], [(.slot 19)]⟩, ⟨[6, 4], [], [7], [(.slot 20)]⟩, ⟨[1], [], [8], [(.slot 21)]⟩, ⟨[2], [], [9], [(.slot 22)]⟩, ⟨[8, 9], [], [10], [(.slot 23)]⟩, ⟨[10, 8], [], [11], [(.slot 24)]⟩, ⟨[7, 11], [], [12], [(.slot 25)]⟩]) (es' := [(_, _), (_, _), (_, _), (25, .v (.bool (v4 != v6)))]) (by kernel_rfl) rfl rfl
          ⟨st_plain rfl (op_move _ _ _ _ rfl rfl),
            st_plain rfl (op_move _ _ _ _ rfl rfl),
            st_plain rfl (op_ix _ _ _ _ _ _ _ _ Try.underlying22 sz5 (by decide) rfl rfl rfl (ix_ok hv3).1 (map_lt (ix_ok hv3).2) rfl),
            st_plain rfl (op_load_e _ _ _ _ _ _ Try.underlying5 rfl rfl rfl (map_get hv4)),
            st_plain rfl (op_move _ _ _ _ rfl rfl),
            st_plain rfl (op_move _ _ _ _ rfl rfl),
            st_plain rfl (op_ix _ _ _ _ _ _ _ _ Try.underlying22 sz5 (by decide) rfl rfl rfl (ix_ok hv5).1 (map_lt (ix_ok hv5).2) rfl),
            st_plain rfl (op_load_e _ _ _ _ _ _ Try.underlying5 rfl rfl rfl (map_get hv6)),
            st_plain rfl (op_bin _ _ _ _ _ rfl rfl rfl),
            trivial⟩ ?_
        refine pt_then ?_
        refine ht_cond _ rfl (fun hb22 => ?_) (fun hb22 => ?_)
        · have h := cond_t hb22 h
          refine ht_seq ?_
          refine ht_seqR hn (El := [_, _, _, _, (4, .v (.bool false))]) (init := [0, 1, 2, 3]) (fin := [4]) (sps := [⟨[], [], [4], [(.slot 4)]⟩]) (es' := [(4, .v (.bool false))]) (by kernel_rfl) rfl rfl
            ⟨st_plain rfl (op_assign _ _ _ _ rfl rfl),
              trivial⟩ ?_
          refine pt_then ?_
          refine ht_ret ?_
          refine pt_r_in ?_
          refine pt_r_then ?_
          refine pt_r_then ?_
          refine pt_r_in ?_
          refine pt_r_then ?_
          have h := hr17 _ (ho18 _ (Option.some.inj h).symm).symm
          obtain rfl := Option.some.inj h
          exact pt_ret hio rfl (.tmp _ _ .nil) rfl rfl
        · have h := cond_f hb22 h
          refine ht_skip ?_
          refine pt_inb ?_
          refine pt_then ?_
          obtain ⟨v8, hv8, h⟩ := bind_some h
          refine ht_seqR hn (El := [_, _, _, _, (15, .v (.int .i64 s12)), (16, .v (.int .i64 v8)), (5, .v (.int .i64 v8))]) (init := [0, 1, 2, 3]) (fin := [0, 1, 6]) (sps := [⟨[2], [], [4], [(.slot 15)]⟩, ⟨[4], [], [5], [(.slot 16)]⟩, ⟨[5], [2], [6], [(.slot 5)]⟩]) (es' := [(_, _), (_, _), (5, .v (.int .i64 v8))]) (by kernel_rfl) rfl rfl
            ⟨st_plain rfl (op_move _ _ _ _ rfl rfl),
              st_plain rfl (op_bin _ _ _ _ _ rfl rfl (ibind (f := Value.int .i64) (Option.some.inj hv8))),
              st_plain rfl (LOp.drop [_] (op_assign _ _ _ _ rfl rfl)),
              trivial⟩ ?_
          exact pt_next _ (Option.some.inj h).symm rfl
      · have h := cond_f hb21 h
        refine ht_exit ?_
        refine pt_x_then ?_
        refine pt_x_then ?_
        refine pt_x_in ?_
        refine pt_pick [] (by kernel_rfl) (es' := []) rfl ?_
        exact hl16 _ (ho18 _ (Option.some.inj h).symm).symm

set_option maxHeartbeats 1000000 in
theorem ok_wherrykeep_Frame (a : T_Frame) (b : T_Frame) (r : Bool) (h : Sh.wherrykeep_Frame a b = some r) : FnOK Try.prog 19 [.agg [.v (.int .i64 a.Kind), .v (.int .i64 a.Number), .v (.int .i64 a.Offset), .v (.int .i64 a.Seq), .fl .shr 1 (List.map (Value.int .u8) a.Data)], .agg [.v (.int .i64 b.Kind), .v (.int .i64 b.Number), .v (.int .i64 b.Offset), .v (.int .i64 b.Seq), .fl .shr 1 (List.map (Value.int .u8) b.Data)]] (.v (.bool r)) := by
  unfold Sh.wherrykeep_Frame at h
  refine fn_ok Try.func19 rfl (Nat.le_of_ble_eq_true rfl) rfl rfl fun g0 hn hio => ?_
  refine ht_seq ?_
  refine ht_seqR hn (El := [_, _, (2, .box 24 [.v (.int .i64 a.Kind), .v (.int .i64 a.Number), .v (.int .i64 a.Offset), .v (.int .i64 a.Seq), .fl .shr 1 (List.map (Value.int .u8) a.Data)]), (3, .box 24 [.v (.int .i64 b.Kind), .v (.int .i64 b.Number), .v (.int .i64 b.Offset), .v (.int .i64 b.Seq), .fl .shr 1 (List.map (Value.int .u8) b.Data)]), (4, .v (.bool false))]) (init := [0, 1]) (fin := [2, 3]) (sps := [⟨[0], [], [2], [(.slot 2)]⟩, ⟨[1], [], [3], [(.slot 3)]⟩, ⟨[], [], [4], [(.slot 4)]⟩]) (es' := [(2, .box 24 [.v (.int .i64 a.Kind), .v (.int .i64 a.Number), .v (.int .i64 a.Offset), .v (.int .i64 a.Seq), .fl .shr 1 (List.map (Value.int .u8) a.Data)]), (3, .box 24 [.v (.int .i64 b.Kind), .v (.int .i64 b.Number), .v (.int .i64 b.Offset), .v (.int .i64 b.Seq), .fl .shr 1 (List.map (Value.int .u8) b.Data)])]) (by kernel_rfl) rfl rfl
    ⟨st_plain rfl (op_box _ _ _ _ rfl rfl rfl),
      st_plain rfl (op_box _ _ _ _ rfl rfl rfl),
      st_plain rfl (op_assign _ _ _ _ rfl rfl),
      trivial⟩ ?_
  refine pt_then ?_
  refine ht_seq ?_
  refine ht_joinS h (fun (s2 : Bool) => [(4, .v (.bool s2))]) ?_ ?_
  · rintro s2 h
    refine pt_then ?_
    refine ht_ret ?_
    obtain rfl := Option.some.inj h
    exact pt_ret hio rfl (.tmp _ _ .nil) rfl rfl
  · intro u3 h hl4 hr5
    refine cond_some h (fun hg1_5 h => ?_) (fun hg1_5 h => ?_)
    · refine cond_some h (fun hg1_12 h => ?_) (fun hg1_12 h => ?_)
      · refine cond_some h (fun hg1_19 h => ?_) (fun hg1_19 h => ?_)
        · refine cond_some h (fun hg1_26 h => ?_) (fun hg1_26 h => ?_)
          · obtain ⟨v1, hv1, h⟩ := bind_some h
            refine ht_seqR hn (El := (_ :: _ :: (5, .ptr 2 0) :: (6, .v (.int .i64 a.Kind)) :: (7, .ptr 3 0) :: (8, .v (.int .i64 b.Kind)) :: (9, .v (.bool (a.Kind == b.Kind))) :: (10, .v (.bool true)) :: (11, .ptr 2 1) :: (12, .v (.int .i64 a.Number)) :: (13, .ptr 3 1) :: (14, .v (.int .i64 b.Number)) :: (15, .v (.bool (a.Number == b.Number))) :: (16, .v (.bool (a.Number == b.Number))) :: (17, .v (.bool true)) :: (18, .ptr 2 2) :: (19, .v (.int .i64 a.Offset)) :: (20, .ptr 3 2) :: (21, .v (.int .i64 b.Offset)) :: (22, .v (.bool (a.Offset == b.Offset))) :: (23, .v (.bool (a.Offset == b.Offset))) :: (24, .v (.bool true)) :: (25, .ptr 2 3) :: (26, .v (.int .i64 a.Seq)) :: (27, .ptr 3 3) :: (28, .v (.int .i64 b.Seq)) :: (29, .v (.bool (a.Seq == b.Seq))) :: (30, .v (.bool (a.Seq == b.Seq))) :: (31, .v (.bool true)) :: (32, .ptr 2 4) :: (33, .fl .shr 1 (List.map (Value.int .u8) a.Data)) :: (34, .ptr 3 4) :: (35, .fl .shr 1 (List.map (Value.int .u8) b.Data)) :: (36, .v (.bool v1)) :: (37, .v (.bool v1)) :: (4, .v (.bool v1)) :: [])) (init := [0, 1]) (fin := [35]) (sps := (⟨[0], [], [2], [(.slot 5)]⟩ :: ⟨[2, 0], [], [3], [(.slot 6)]⟩ :: ⟨[1], [], [4], [(.slot 7)]⟩ :: ⟨[4, 1], [], [5], [(.slot 8)]⟩ :: ⟨[3, 5], [], [6], [(.slot 9)]⟩ :: ⟨[6], [], [7], [(.slot 10)]⟩ :: ⟨[7, 0], [], [8], [(.slot 11)]⟩ :: ⟨[7, 8, 0], [], [9], [(.slot 12)]⟩ :: ⟨[7, 1], [], [10], [(.slot 13)]⟩ :: ⟨[7, 10, 1], [], [11], [(.slot 14)]⟩ :: ⟨[7, 9, 11], [], [12], [(.slot 15)]⟩ :: ⟨[7, 12], [], [13], [(.slot 16)]⟩ :: ⟨[13], [], [14], [(.slot 17)]⟩ :: ⟨[14, 0], [], [15], [(.slot 18)]⟩ :: ⟨[14, 15, 0], [], [16], [(.slot 19)]⟩ :: ⟨[14, 1], [], [17], [(.slot 20)]⟩ :: ⟨[14, 17, 1], [], [18], [(.slot 21)]⟩ :: ⟨[14, 16, 18], [], [19], [(.slot 22)]⟩ :: ⟨[14, 19], [], [20], [(.slot 23)]⟩ :: ⟨[20], [], [21], [(.slot 24)]⟩ :: ⟨[21, 0], [], [22], [(.slot 25)]⟩ :: ⟨[21, 22, 0], [], [23], [(.slot 26)]⟩ :: ⟨[21, 1], [], [24], [(.slot 27)]⟩ :: ⟨[21, 24, 1], [], [25], [(.slot 28)]⟩ :: ⟨[21, 23, 25], [], [26], [(.slot 29)]⟩ :: ⟨[21, 26], [], [27], [(.slot 30)]⟩ :: ⟨[27], [], [28], [(.slot 31)]⟩ :: ⟨[28, 0], [], [29], [(.slot 32)]⟩ :: ⟨[28, 29, 0], [], [30], [(.slot 33)]⟩ :: ⟨[28, 1], [], [31], [(.slot 34)]⟩ :: ⟨[28, 31, 1], [], [32], [(.slot 35)]⟩ :: ⟨[28, 30, 32], [], [33], [(.slot 36)]⟩ :: ⟨[28, 33], [], [34], [(.slot 37)]⟩ :: ⟨[34], [], [35], [(.slot 4)]⟩ :: [])) (es' := [(4, .v (.bool v1))]) (by kernel_rfl) rfl rfl
              ⟨st_plain rfl (op_fieldAddr _ _ _ _ 2 0 _ Try.underlying24 rfl sz3 rfl rfl (by decide)),
                st_plain rfl (op_load _ _ _ _ _ _ Try.underlying3 rfl rfl rfl (Nat.le_of_ble_eq_true rfl) rfl rfl rfl),
                st_plain rfl (op_fieldAddr _ _ _ _ 3 0 _ Try.underlying24 rfl sz3 rfl rfl (by decide)),
                st_plain rfl (op_load _ _ _ _ _ _ Try.underlying3 rfl rfl rfl (Nat.le_of_ble_eq_true rfl) rfl rfl rfl),
                st_plain rfl (op_bin _ _ _ _ _ rfl rfl rfl),
                st_plain rfl (op_move _ _ _ _ (congrArg (fun b => AV.v (Value.bool b)) hg1_5) rfl),
                st_run 5 10 true rfl rfl rfl (List.Mem.head _) (op_fieldAddr _ _ _ _ 2 0 _ Try.underlying24 rfl sz3 rfl rfl (by decide)),
                st_run 5 10 true rfl rfl rfl (List.Mem.head _) (op_load _ _ _ _ _ _ Try.underlying3 rfl rfl rfl (Nat.le_of_ble_eq_true rfl) rfl rfl rfl),
                st_run 5 10 true rfl rfl rfl (List.Mem.head _) (op_fieldAddr _ _ _ _ 3 0 _ Try.underlying24 rfl sz3 rfl rfl (by decide)),
                st_run 5 10 true rfl rfl rfl (List.Mem.head _) (op_load _ _ _ _ _ _ Try.underlying3 rfl rfl rfl (Nat.le_of_ble_eq_true rfl) rfl rfl rfl),
                st_run 5 10 true rfl rfl rfl (List.Mem.head _) (op_bin _ _ _ _ _ rfl rfl rfl),
                st_plain rfl (op_pick _ _ true _ rfl rfl),
                st_plain rfl (op_move _ _ _ _ (congrArg (fun b => AV.v (Value.bool b)) hg1_12) rfl),
                st_run 12 17 true rfl rfl rfl (List.Mem.head _) (op_fieldAddr _ _ _ _ 2 0 _ Try.underlying24 rfl sz3 rfl rfl (by decide)),
                st_run 12 17 true rfl rfl rfl (List.Mem.head _) (op_load _ _ _ _ _ _ Try.underlying3 rfl rfl rfl (Nat.le_of_ble_eq_true rfl) rfl rfl rfl),
                st_run 12 17 true rfl rfl rfl (List.Mem.head _) (op_fieldAddr _ _ _ _ 3 0 _ Try.underlying24 rfl sz3 rfl rfl (by decide)),
                st_run 12 17 true rfl rfl rfl (List.Mem.head _) (op_load _ _ _ _ _ _ Try.underlying3 rfl rfl rfl (Nat.le_of_ble_eq_true rfl) rfl rfl rfl),
                st_run 12 17 true rfl rfl rfl (List.Mem.head _) (op_bin _ _ _ _ _ rfl rfl rfl),
                st_plain rfl (op_pick _ _ true _ rfl rfl),
                st_plain rfl (op_move _ _ _ _ (congrArg (fun b => AV.v (Value.bool b)) hg1_19) rfl),
                st_run 19 24 true rfl rfl rfl (List.Mem.head _) (op_fieldAddr _ _ _ _ 2 0 _ Try.underlying24 rfl sz3 rfl rfl (by decide)),
                st_run 19 24 true rfl rfl rfl (List.Mem.head _) (op_load _ _ _ _ _ _ Try.underlying3 rfl rfl rfl (Nat.le_of_ble_eq_true rfl) rfl rfl rfl),
                st_run 19 24 true rfl rfl rfl (List.Mem.head _) (op_fieldAddr _ _ _ _ 3 0 _ Try.underlying24 rfl sz3 rfl rfl (by decide)),
                st_run 19 24 true rfl rfl rfl (List.Mem.head _) (op_load _ _ _ _ _ _ Try.underlying3 rfl rfl rfl (Nat.le_of_ble_eq_true rfl) rfl rfl rfl),
                st_run 19 24 true rfl rfl rfl (List.Mem.head _) (op_bin _ _ _ _ _ rfl rfl rfl),
                st_plain rfl (op_pick _ _ true _ rfl rfl),
                st_plain rfl (op_move _ _ _ _ (congrArg (fun b => AV.v (Value.bool b)) hg1_26) rfl),
                st_run 26 31 true rfl rfl rfl (List.Mem.head _) (op_fieldAddr _ _ _ _ 2 0 _ Try.underlying24 rfl sz22 rfl rfl (by decide)),
                st_run 26 31 true rfl rfl rfl (List.Mem.head _) (op_load _ _ _ _ _ _ Try.underlying22 rfl rfl rfl (Nat.le_of_ble_eq_true rfl) rfl rfl rfl),
                st_run 26 31 true rfl rfl rfl (List.Mem.head _) (op_fieldAddr _ _ _ _ 3 0 _ Try.underlying24 rfl sz22 rfl rfl (by decide)),
                st_run 26 31 true rfl rfl rfl (List.Mem.head _) (op_load _ _ _ _ _ _ Try.underlying22 rfl rfl rfl (Nat.le_of_ble_eq_true rfl) rfl rfl rfl),
                st_run 26 31 true rfl rfl rfl (List.Mem.head _) (op_call _ _ 17 _ _ rfl Try.call17 rfl (ok_wherrykeep_Bytes a.Data b.Data _ hv1) rfl rfl),
                st_plain rfl (op_pick _ _ true _ rfl rfl),
                st_plain rfl (op_assign _ _ _ _ rfl rfl),
                trivial⟩ ?_
            exact hl4 _ (Option.some.inj h).symm
          · refine ht_seqR hn (El := (_ :: _ :: (5, .ptr 2 0) :: (6, .v (.int .i64 a.Kind)) :: (7, .ptr 3 0) :: (8, .v (.int .i64 b.Kind)) :: (9, .v (.bool (a.Kind == b.Kind))) :: (10, .v (.bool true)) :: (11, .ptr 2 1) :: (12, .v (.int .i64 a.Number)) :: (13, .ptr 3 1) :: (14, .v (.int .i64 b.Number)) :: (15, .v (.bool (a.Number == b.Number))) :: (16, .v (.bool (a.Number == b.Number))) :: (17, .v (.bool true)) :: (18, .ptr 2 2) :: (19, .v (.int .i64 a.Offset)) :: (20, .ptr 3 2) :: (21, .v (.int .i64 b.Offset)) :: (22, .v (.bool (a.Offset == b.Offset))) :: (23, .v (.bool (a.Offset == b.Offset))) :: (24, .v (.bool true)) :: (25, .ptr 2 3) :: (26, .v (.int .i64 a.Seq)) :: (27, .ptr 3 3) :: (28, .v (.int .i64 b.Seq)) :: (29, .v (.bool (a.Seq == b.Seq))) :: (30, .v (.bool (a.Seq == b.Seq))) :: (31, .v (.bool false)) :: (32, .v undef) :: (33, .v undef) :: (34, .v undef) :: (35, .v undef) :: (36, .v undef) :: (37, .v (.bool false)) :: (4, .v (.bool false)) :: [])) (init := [0, 1]) (fin := [35]) (sps := (⟨[0], [], [2], [(.slot 5)]⟩ :: ⟨[2, 0], [], [3], [(.slot 6)]⟩ :: ⟨[1], [], [4], [(.slot 7)]⟩ :: ⟨[4, 1], [], [5], [(.slot 8)]⟩ :: ⟨[3, 5], [], [6], [(.slot 9)]⟩ :: ⟨[6], [], [7], [(.slot 10)]⟩ :: ⟨[7, 0], [], [8], [(.slot 11)]⟩ :: ⟨[7, 8, 0], [], [9], [(.slot 12)]⟩ :: ⟨[7, 1], [], [10], [(.slot 13)]⟩ :: ⟨[7, 10, 1], [], [11], [(.slot 14)]⟩ :: ⟨[7, 9, 11], [], [12], [(.slot 15)]⟩ :: ⟨[7, 12], [], [13], [(.slot 16)]⟩ :: ⟨[13], [], [14], [(.slot 17)]⟩ :: ⟨[14, 0], [], [15], [(.slot 18)]⟩ :: ⟨[14, 15, 0], [], [16], [(.slot 19)]⟩ :: ⟨[14, 1], [], [17], [(.slot 20)]⟩ :: ⟨[14, 17, 1], [], [18], [(.slot 21)]⟩ :: ⟨[14, 16, 18], [], [19], [(.slot 22)]⟩ :: ⟨[14, 19], [], [20], [(.slot 23)]⟩ :: ⟨[20], [], [21], [(.slot 24)]⟩ :: ⟨[21, 0], [], [22], [(.slot 25)]⟩ :: ⟨[21, 22, 0], [], [23], [(.slot 26)]⟩ :: ⟨[21, 1], [], [24], [(.slot 27)]⟩ :: ⟨[21, 24, 1], [], [25], [(.slot 28)]⟩ :: ⟨[21, 23, 25], [], [26], [(.slot 29)]⟩ :: ⟨[21, 26], [], [27], [(.slot 30)]⟩ :: ⟨[27], [], [28], [(.slot 31)]⟩ :: ⟨[28], [], [29], [(.slot 32)]⟩ :: ⟨[28], [], [30], [(.slot 33)]⟩ :: ⟨[28], [], [31], [(.slot 34)]⟩ :: ⟨[28], [], [32], [(.slot 35)]⟩ :: ⟨[28], [], [33], [(.slot 36)]⟩ :: ⟨[28], [], [34], [(.slot 37)]⟩ :: ⟨[34], [], [35], [(.slot 4)]⟩ :: [])) (es' := [(4, .v (.bool false))]) (by kernel_rfl) rfl rfl
              ⟨st_plain rfl (op_fieldAddr _ _ _ _ 2 0 _ Try.underlying24 rfl sz3 rfl rfl (by decide)),
                st_plain rfl (op_load _ _ _ _ _ _ Try.underlying3 rfl rfl rfl (Nat.le_of_ble_eq_true rfl) rfl rfl rfl),
                st_plain rfl (op_fieldAddr _ _ _ _ 3 0 _ Try.underlying24 rfl sz3 rfl rfl (by decide)),
                st_plain rfl (op_load _ _ _ _ _ _ Try.underlying3 rfl rfl rfl (Nat.le_of_ble_eq_true rfl) rfl rfl rfl),
                st_plain rfl (op_bin _ _ _ _ _ rfl rfl rfl),
                st_plain rfl (op_move _ _ _ _ (congrArg (fun b => AV.v (Value.bool b)) hg1_5) rfl),
                st_run 5 10 true rfl rfl rfl (List.Mem.head _) (op_fieldAddr _ _ _ _ 2 0 _ Try.underlying24 rfl sz3 rfl rfl (by decide)),
                st_run 5 10 true rfl rfl rfl (List.Mem.head _) (op_load _ _ _ _ _ _ Try.underlying3 rfl rfl rfl (Nat.le_of_ble_eq_true rfl) rfl rfl rfl),
                st_run 5 10 true rfl rfl rfl (List.Mem.head _) (op_fieldAddr _ _ _ _ 3 0 _ Try.underlying24 rfl sz3 rfl rfl (by decide)),
                st_run 5 10 true rfl rfl rfl (List.Mem.head _) (op_load _ _ _ _ _ _ Try.underlying3 rfl rfl rfl (Nat.le_of_ble_eq_true rfl) rfl rfl rfl),
                st_run 5 10 true rfl rfl rfl (List.Mem.head _) (op_bin _ _ _ _ _ rfl rfl rfl),
                st_plain rfl (op_pick _ _ true _ rfl rfl),
                st_plain rfl (op_move _ _ _ _ (congrArg (fun b => AV.v (Value.bool b)) hg1_12) rfl),
                st_run 12 17 true rfl rfl rfl (List.Mem.head _) (op_fieldAddr _ _ _ _ 2 0 _ Try.underlying24 rfl sz3 rfl rfl (by decide)),
                st_run 12 17 true rfl rfl rfl (List.Mem.head _) (op_load _ _ _ _ _ _ Try.underlying3 rfl rfl rfl (Nat.le_of_ble_eq_true rfl) rfl rfl rfl),
                st_run 12 17 true rfl rfl rfl (List.Mem.head _) (op_fieldAddr _ _ _ _ 3 0 _ Try.underlying24 rfl sz3 rfl rfl (by decide)),
                st_run 12 17 true rfl rfl rfl (List.Mem.head _) (op_load _ _ _ _ _ _ Try.underlying3 rfl rfl rfl (Nat.le_of_ble_eq_true rfl) rfl rfl rfl),
                st_run 12 17 true rfl rfl rfl (List.Mem.head _) (op_bin _ _ _ _ _ rfl rfl rfl),
                st_plain rfl (op_pick _ _ true _ rfl rfl),
                st_plain rfl (op_move _ _ _ _ (congrArg (fun b => AV.v (Value.bool b)) hg1_19) rfl),
                st_run 19 24 true rfl rfl rfl (List.Mem.head _) (op_fieldAddr _ _ _ _ 2 0 _ Try.underlying24 rfl sz3 rfl rfl (by decide)),
                st_run 19 24 true rfl rfl rfl (List.Mem.head _) (op_load _ _ _ _ _ _ Try.underlying3 rfl rfl rfl (Nat.le_of_ble_eq_true rfl) rfl rfl rfl),
                st_run 19 24 true rfl rfl rfl (List.Mem.head _) (op_fieldAddr _ _ _ _ 3 0 _ Try.underlying24 rfl sz3 rfl rfl (by decide)),
                st_run 19 24 true rfl rfl rfl (List.Mem.head _) (op_load _ _ _ _ _ _ Try.underlying3 rfl rfl rfl (Nat.le_of_ble_eq_true rfl) rfl rfl rfl),
                st_run 19 24 true rfl rfl rfl (List.Mem.head _) (op_bin _ _ _ _ _ rfl rfl rfl),
                st_plain rfl (op_pick _ _ true _ rfl rfl),
                st_plain rfl (op_move _ _ _ _ (congrArg (fun b => AV.v (Value.bool b)) hg1_26) rfl),
                st_skip 26 31 _ true rfl rfl rfl rfl (List.Mem.head _),
                st_skip 26 31 _ true rfl rfl rfl rfl (List.Mem.head _),
                st_skip 26 31 _ true rfl rfl rfl rfl (List.Mem.head _),
                st_skip 26 31 _ true rfl rfl rfl rfl (List.Mem.head _),
                st_skip 26 31 _ true rfl rfl rfl rfl (List.Mem.head _),
                st_plain rfl (op_pick _ _ false _ rfl rfl),
                st_plain rfl (op_assign _ _ _ _ rfl rfl),
                trivial⟩ ?_
            exact hl4 _ (Option.some.inj h).symm
        · refine ht_seqR hn (El := (_ :: _ :: (5, .ptr 2 0) :: (6, .v (.int .i64 a.Kind)) :: (7, .ptr 3 0) :: (8, .v (.int .i64 b.Kind)) :: (9, .v (.bool (a.Kind == b.Kind))) :: (10, .v (.bool true)) :: (11, .ptr 2 1) :: (12, .v (.int .i64 a.Number)) :: (13, .ptr 3 1) :: (14, .v (.int .i64 b.Number)) :: (15, .v (.bool (a.Number == b.Number))) :: (16, .v (.bool (a.Number == b.Number))) :: (17, .v (.bool true)) :: (18, .ptr 2 2) :: (19, .v (.int .i64 a.Offset)) :: (20, .ptr 3 2) :: (21, .v (.int .i64 b.Offset)) :: (22, .v (.bool (a.Offset == b.Offset))) :: (23, .v (.bool (a.Offset == b.Offset))) :: (24, .v (.bool false)) :: (25, .v undef) :: (26, .v undef) :: (27, .v undef) :: (28, .v undef) :: (29, .v undef) :: (30, .v (.bool false)) :: (31, .v (.bool false)) :: (32, .v undef) :: (33, .v undef) :: (34, .v undef) :: (35, .v undef) :: (36, .v undef) :: (37, .v (.bool false)) :: (4, .v (.bool false)) :: [])) (init := [0, 1]) (fin := [35]) (sps := (⟨[0], [], [2], [(.slot 5)]⟩ :: ⟨[2, 0], [], [3], [(.slot 6)]⟩ :: ⟨[1], [], [4], [(.slot 7)]⟩ :: ⟨[4, 1], [], [5], [(.slot 8)]⟩ :: ⟨[3, 5], [], [6], [(.slot 9)]⟩ :: ⟨[6], [], [7], [(.slot 10)]⟩ :: ⟨[7, 0], [], [8], [(.slot 11)]⟩ :: ⟨[7, 8, 0], [], [9], [(.slot 12)]⟩ :: ⟨[7, 1], [], [10], [(.slot 13)]⟩ :: ⟨[7, 10, 1], [], [11], [(.slot 14)]⟩ :: ⟨[7, 9, 11], [], [12], [(.slot 15)]⟩ :: ⟨[7, 12], [], [13], [(.slot 16)]⟩ :: ⟨[13], [], [14], [(.slot 17)]⟩ :: ⟨[14, 0], [], [15], [(.slot 18)]⟩ :: ⟨[14, 15, 0], [], [16], [(.slot 19)]⟩ :: ⟨[14, 1], [], [17], [(.slot 20)]⟩ :: ⟨[14, 17, 1], [], [18], [(.slot 21)]⟩ :: ⟨[14, 16, 18], [], [19], [(.slot 22)]⟩ :: ⟨[14, 19], [], [20], [(.slot 23)]⟩ :: ⟨[20], [], [21], [(.slot 24)]⟩ :: ⟨[21], [], [22], [(.slot 25)]⟩ :: ⟨[21], [], [23], [(.slot 26)]⟩ :: ⟨[21], [], [24], [(.slot 27)]⟩ :: ⟨[21], [], [25], [(.slot 28)]⟩ :: ⟨[21], [], [26], [(.slot 29)]⟩ :: ⟨[21], [], [27], [(.slot 30)]⟩ :: ⟨[27], [], [28], [(.slot 31)]⟩ :: ⟨[28], [], [29], [(.slot 32)]⟩ :: ⟨[28], [], [30], [(.slot 33)]⟩ :: ⟨[28], [], [31], [(.slot 34)]⟩ :: ⟨[28], [], [32], [(.slot 35)]⟩ :: ⟨[28], [], [33], [(.slot 36)]⟩ :: ⟨[28], [], [34], [(.slot 37)]⟩ :: ⟨[34], [], [35], [(.slot 4)]⟩ :: [])) (es' := [(4, .v (.bool false))]) (by kernel_rfl) rfl rfl
            ⟨st_plain rfl (op_fieldAddr _ _ _ _ 2 0 _ Try.underlying24 rfl sz3 rfl rfl (by decide)),
              st_plain rfl (op_load _ _ _ _ _ _ Try.underlying3 rfl rfl rfl (Nat.le_of_ble_eq_true rfl) rfl rfl rfl),
              st_plain rfl (op_fieldAddr _ _ _ _ 3 0 _ Try.underlying24 rfl sz3 rfl rfl (by decide)),
              st_plain rfl (op_load _ _ _ _ _ _ Try.underlying3 rfl rfl rfl (Nat.le_of_ble_eq_true rfl) rfl rfl rfl),
              st_plain rfl (op_bin _ _ _ _ _ rfl rfl rfl),
              st_plain rfl (op_move _ _ _ _ (congrArg (fun b => AV.v (Value.bool b)) hg1_5) rfl),
              st_run 5 10 true rfl rfl rfl (List.Mem.head _) (op_fieldAddr _ _ _ _ 2 0 _ Try.underlying24 rfl sz3 rfl rfl (by decide)),
              st_run 5 10 true rfl rfl rfl (List.Mem.head _) (op_load _ _ _ _ _ _ Try.underlying3 rfl rfl rfl (Nat.le_of_ble_eq_true rfl) rfl rfl rfl),
              st_run 5 10 true rfl rfl rfl (List.Mem.head _) (op_fieldAddr _ _ _ _ 3 0 _ Try.underlying24 rfl sz3 rfl rfl (by decide)),
              st_run 5 10 true rfl rfl rfl (List.Mem.head _) (op_load _ _ _ _ _ _ Try.underlying3 rfl rfl rfl (Nat.le_of_ble_eq_true rfl) rfl rfl rfl),
              st_run 5 10 true rfl rfl rfl (List.Mem.head _) (op_bin _ _ _ _ _ rfl rfl rfl),
              st_plain rfl (op_pick _ _ true _ rfl rfl),
              st_plain rfl (op_move _ _ _ _ (congrArg (fun b => AV.v (Value.bool b)) hg1_12) rfl),
              st_run 12 17 true rfl rfl rfl (List.Mem.head _) (op_fieldAddr _ _ _ _ 2 0 _ Try.underlying24 rfl sz3 rfl rfl (by decide)),
              st_run 12 17 true rfl rfl rfl (List.Mem.head _) (op_load _ _ _ _ _ _ Try.underlying3 rfl rfl rfl (Nat.le_of_ble_eq_true rfl) rfl rfl rfl),
              st_run 12 17 true rfl rfl rfl (List.Mem.head _) (op_fieldAddr _ _ _ _ 3 0 _ Try.underlying24 rfl sz3 rfl rfl (by decide)),
              st_run 12 17 true rfl rfl rfl (List.Mem.head _) (op_load _ _ _ _ _ _ Try.underlying3 rfl rfl rfl (Nat.le_of_ble_eq_true rfl) rfl rfl rfl),
              st_run 12 17 true rfl rfl rfl (List.Mem.head _) (op_bin _ _ _ _ _ rfl rfl rfl),
              st_plain rfl (op_pick _ _ true _ rfl rfl),
              st_plain rfl (op_move _ _ _ _ (congrArg (fun b => AV.v (Value.bool b)) hg1_19) rfl),
              st_skip 19 24 _ true rfl rfl rfl rfl (List.Mem.head _),
              st_skip 19 24 _ true rfl rfl rfl rfl (List.Mem.head _),
              st_skip 19 24 _ true rfl rfl rfl rfl (List.Mem.head _),
              st_skip 19 24 _ true rfl rfl rfl rfl (List.Mem.head _),
              st_skip 19 24 _ true rfl rfl rfl rfl (List.Mem.head _),
              st_plain rfl (op_pick _ _ false _ rfl rfl),
              st_plain rfl (op_move _ _ _ _ rfl rfl),
              st_skip 26 31 _ true rfl rfl rfl rfl (List.Mem.head _),
              st_skip 26 31 _ true rfl rfl rfl rfl (List.Mem.head _),
              st_skip 26 31 _ true rfl rfl rfl rfl (List.Mem.head _),
              st_skip 26 31 _ true rfl rfl rfl rfl (List.Mem.head _),
              st_skip 26 31 _ true rfl rfl rfl rfl (List.Mem.head _),
              st_plain rfl (op_pick _ _ false _ rfl rfl),
              st_plain rfl (op_assign _ _ _ _ rfl rfl),
              trivial⟩ ?_
          exact hl4 _ (Option.some.inj h).symm
      · refine ht_seqR hn (El := (_ :: _ :: (5, .ptr 2 0) :: (6, .v (.int .i64 a.Kind)) :: (7, .ptr 3 0) :: (8, .v (.int .i64 b.Kind)) :: (9, .v (.bool (a.Kind == b.Kind))) :: (10, .v (.bool true)) :: (11, .ptr 2 1) :: (12, .v (.int .i64 a.Number)) :: (13, .ptr 3 1) :: (14, .v (.int .i64 b.Number)) :: (15, .v (.bool (a.Number == b.Number))) :: (16, .v (.bool (a.Number == b.Number))) :: (17, .v (.bool false)) :: (18, .v undef) :: (19, .v undef) :: (20, .v undef) :: (21, .v undef) :: (22, .v undef) :: (23, .v (.bool false)) :: (24, .v (.bool false)) :: (25, .v undef) :: (26, .v undef) :: (27, .v undef) :: (28, .v undef) :: (29, .v undef) :: (30, .v (.bool false)) :: (31, .v (.bool false)) :: (32, .v undef) :: (33, .v undef) :: (34, .v undef) :: (35, .v undef) :: (36, .v undef) :: (37, .v (.bool false)) :: (4, .v (.bool false)) :: [])) (init := [0, 1]) (fin := [35]) (sps := (⟨[0], [], [2], [(.slot 5)]⟩ :: ⟨[2, 0], [], [3], [(.slot 6)]⟩ :: ⟨[1], [], [4], [(.slot 7)]⟩ :: ⟨[4, 1], [], [5], [(.slot 8)]⟩ :: ⟨[3, 5], [], [6], [(.slot 9)]⟩ :: ⟨[6], [], [7], [(.slot 10)]⟩ :: ⟨[7, 0], [], [8], [(.slot 11)]⟩ :: ⟨[7, 8, 0], [], [9], [(.slot 12)]⟩ :: ⟨[7, 1], [], [10], [(.slot 13)]⟩ :: ⟨[7, 10, 1], [], [11], [(.slot 14)]⟩ :: ⟨[7, 9, 11], [], [12], [(.slot 15)]⟩ :: ⟨[7, 12], [], [13], [(.slot 16)]⟩ :: ⟨[13], [], [14], [(.slot 17)]⟩ :: ⟨[14], [], [15], [(.slot 18)]⟩ :: ⟨[14], [], [16], [(.slot 19)]⟩ :: ⟨[14], [], [17], [(.slot 20)]⟩ :: ⟨[14], [], [18], [(.slot 21)]⟩ :: ⟨[14], [], [19], [(.slot 22)]⟩ :: ⟨[14], [], [20], [(.slot 23)]⟩ :: ⟨[20], [], [21], [(.slot 24)]⟩ :: ⟨[21], [], [22], [(.slot 25)]⟩ :: ⟨[21], [], [23], [(.slot 26)]⟩ :: ⟨[21], [], [24], [(.slot 27)]⟩ :: ⟨[21], [], [25], [(.slot 28)]⟩ :: ⟨[21], [], [26], [(.slot 29)]⟩ :: ⟨[21], [], [27], [(.slot 30)]⟩ :: ⟨[27], [], [28], [(.slot 31)]⟩ :: ⟨[28], [], [29], [(.slot 32)]⟩ :: ⟨[28], [], [30], [(.slot 33)]⟩ :: ⟨[28], [], [31], [(.slot 34)]⟩ :: ⟨[28], [], [32], [(.slot 35)]⟩ :: ⟨[28], [], [33], [(.slot 36)]⟩ :: ⟨[28], [], [34], [(.slot 37)]⟩ :: ⟨[34], [], [35], [(.slot 4)]⟩ :: [])) (es' := [(4, .v (.bool false))]) (by kernel_rfl) rfl rfl
          ⟨st_plain rfl (op_fieldAddr _ _ _ _ 2 0 _ Try.underlying24 rfl sz3 rfl rfl (by decide)),
            st_plain rfl (op_load _ _ _ _ _ _ Try.underlying3 rfl rfl rfl (Nat.le_of_ble_eq_true rfl) rfl rfl rfl),
            st_plain rfl (op_fieldAddr _ _ _ _ 3 0 _ Try.underlying24 rfl sz3 rfl rfl (by decide)),
            st_plain rfl (op_load _ _ _ _ _ _ Try.underlying3 rfl rfl rfl (Nat.le_of_ble_eq_true rfl) rfl rfl rfl),
            st_plain rfl (op_bin _ _ _ _ _ rfl rfl rfl),
            st_plain rfl (op_move _ _ _ _ (congrArg (fun b => AV.v (Value.bool b)) hg1_5) rfl),
            st_run 5 10 true rfl rfl rfl (List.Mem.head _) (op_fieldAddr _ _ _ _ 2 0 _ Try.underlying24 rfl sz3 rfl rfl (by decide)),
            st_run 5 10 true rfl rfl rfl (List.Mem.head _) (op_load _ _ _ _ _ _ Try.underlying3 rfl rfl rfl (Nat.le_of_ble_eq_true rfl) rfl rfl rfl),
            st_run 5 10 true rfl rfl rfl (List.Mem.head _) (op_fieldAddr _ _ _ _ 3 0 _ Try.underlying24 rfl sz3 rfl rfl (by decide)),
            st_run 5 10 true rfl rfl rfl (List.Mem.head _) (op_load _ _ _ _ _ _ Try.underlying3 rfl rfl rfl (Nat.le_of_ble_eq_true rfl) rfl rfl rfl),
            st_run 5 10 true rfl rfl rfl (List.Mem.head _) (op_bin _ _ _ _ _ rfl rfl rfl),
            st_plain rfl (op_pick _ _ true _ rfl rfl),
            st_plain rfl (op_move _ _ _ _ (congrArg (fun b => AV.v (Value.bool b)) hg1_12) rfl),
            st_skip 12 17 _ true rfl rfl rfl rfl (List.Mem.head _),
            st_skip 12 17 _ true rfl rfl rfl rfl (List.Mem.head _),
            st_skip 12 17 _ true rfl rfl rfl rfl (List.Mem.head _),
            st_skip 12 17 _ true rfl rfl rfl rfl (List.Mem.head _),
            st_skip 12 17 _ true rfl rfl rfl rfl (List.Mem.head _),
            st_plain rfl (op_pick _ _ false _ rfl rfl),
            st_plain rfl (op_move _ _ _ _ rfl rfl),
            st_skip 19 24 _ true rfl rfl rfl rfl (List.Mem.head _),
            st_skip 19 24 _ true rfl rfl rfl rfl (List.Mem.head _),
            st_skip 19 24 _ true rfl rfl rfl rfl (List.Mem.head _),
            st_skip 19 24 _ true rfl rfl rfl rfl (List.Mem.head _),
            st_skip 19 24 _ true rfl rfl rfl rfl (List.Mem.head _),
            st_plain rfl (op_pick _ _ false _ rfl rfl),
            st_plain rfl (op_move _ _ _ _ rfl rfl),
            st_skip 26 31 _ true rfl rfl rfl rfl (List.Mem.head _),
            st_skip 26 31 _ true rfl rfl rfl rfl (List.Mem.head _),
            st_skip 26 31 _ true rfl rfl rfl rfl (List.Mem.head _),
            st_skip 26 31 _ true rfl rfl rfl rfl (List.Mem.head _),
            st_skip 26 31 _ true rfl rfl rfl rfl (List.Mem.head _),
            st_plain rfl (op_pick _ _ false _ rfl rfl),
            st_plain rfl (op_assign _ _ _ _ rfl rfl),
            trivial⟩ ?_
        exact hl4 _ (Option.some.inj h).symm
    · refine ht_seqR hn (El := (_ :: _ :: (5, .ptr 2 0) :: (6, .v (.int .i64 a.Kind)) :: (7, .ptr 3 0) :: (8, .v (.int .i64 b.Kind)) :: (9, .v (.bool (a.Kind == b.Kind))) :: (10, .v (.bool false)) :: (11, .v undef) :: (12, .v undef) :: (13, .v undef) :: (14, .v undef) :: (15, .v undef) :: (16, .v (.bool false)) :: (17, .v (.bool false)) :: (18, .v undef) :: (19, .v undef) :: (20, .v undef) :: (21, .v undef) :: (22, .v undef) :: (23, .v (.bool false)) :: (24, .v (.bool false)) :: (25, .v undef) :: (26, .v undef) :: (27, .v undef) :: (28, .v undef) :: (29, .v undef) :: (30, .v (.bool false)) :: (31, .v (.bool false)) :: (32, .v undef) :: (33, .v undef) :: (34, .v undef) :: (35, .v undef) :: (36, .v undef) :: (37, .v (.bool false)) :: (4, .v (.bool false)) :: [])) (init := [0, 1]) (fin := [35]) (sps := (⟨[0], [], [2], [(.slot 5)]⟩ :: ⟨[2, 0], [], [3], [(.slot 6)]⟩ :: ⟨[1], [], [4], [(.slot 7)]⟩ :: ⟨[4, 1], [], [5], [(.slot 8)]⟩ :: ⟨[3, 5], [], [6], [(.slot 9)]⟩ :: ⟨[6], [], [7], [(.slot 10)]⟩ :: ⟨[7], [], [8], [(.slot 11)]⟩ :: ⟨[7], [], [9], [(.slot 12)]⟩ :: ⟨[7], [], [10], [(.slot 13)]⟩ :: ⟨[7], [], [11], [(.slot 14)]⟩ :: ⟨[7], [], [12], [(.slot 15)]⟩ :: ⟨[7], [], [13], [(.slot 16)]⟩ :: ⟨[13], [], [14], [(.slot 17)]⟩ :: ⟨[14], [], [15], [(.slot 18)]⟩ :: ⟨[14], [], [16], [(.slot 19)]⟩ :: ⟨[14], [], [17], [(.slot 20)]⟩ :: ⟨[14], [], [18], [(.slot 21)]⟩ :: ⟨[14], [], [19], [(.slot 22)]⟩ :: ⟨[14], [], [20], [(.slot 23)]⟩ :: ⟨[20], [], [21], [(.slot 24)]⟩ :: ⟨[21], [], [22], [(.slot 25)]⟩ :: ⟨[21], [], [23], [(.slot 26)]⟩ :: ⟨[21], [], [24], [(.slot 27)]⟩ :: ⟨[21], [], [25], [(.slot 28)]⟩ :: ⟨[21], [], [26], [(.slot 29)]⟩ :: ⟨[21], [], [27], [(.slot 30)]⟩ :: ⟨[27], [], [28], [(.slot 31)]⟩ :: ⟨[28], [], [29], [(.slot 32)]⟩ :: ⟨[28], [], [30], [(.slot 33)]⟩ :: ⟨[28], [], [31], [(.slot 34)]⟩ :: ⟨[28], [], [32], [(.slot 35)]⟩ :: ⟨[28], [], [33], [(.slot 36)]⟩ :: ⟨[28], [], [34], [(.slot 37)]⟩ :: ⟨[34], [], [35], [(.slot 4)]⟩ :: [])) (es' := [(4, .v (.bool false))]) (by kernel_rfl) rfl rfl
        ⟨st_plain rfl (op_fieldAddr _ _ _ _ 2 0 _ Try.underlying24 rfl sz3 rfl rfl (by decide)),
          st_plain rfl (op_load _ _ _ _ _ _ Try.underlying3 rfl rfl rfl (Nat.le_of_ble_eq_true rfl) rfl rfl rfl),
          st_plain rfl (op_fieldAddr _ _ _ _ 3 0 _ Try.underlying24 rfl sz3 rfl rfl (by decide)),
          st_plain rfl (op_load _ _ _ _ _ _ Try.underlying3 rfl rfl rfl (Nat.le_of_ble_eq_true rfl) rfl rfl rfl),
          st_plain rfl (op_bin _ _ _ _ _ rfl rfl rfl),
          st_plain rfl (op_move _ _ _ _ (congrArg (fun b => AV.v (Value.bool b)) hg1_5) rfl),
          st_skip 5 10 _ true rfl rfl rfl rfl (List.Mem.head _),
          st_skip 5 10 _ true rfl rfl rfl rfl (List.Mem.head _),
          st_skip 5 10 _ true rfl rfl rfl rfl (List.Mem.head _),
          st_skip 5 10 _ true rfl rfl rfl rfl (List.Mem.head _),
          st_skip 5 10 _ true rfl rfl rfl rfl (List.Mem.head _),
          st_plain rfl (op_pick _ _ false _ rfl rfl),
          st_plain rfl (op_move _ _ _ _ rfl rfl),
          st_skip 12 17 _ true rfl rfl rfl rfl (List.Mem.head _),
          st_skip 12 17 _ true rfl rfl rfl rfl (List.Mem.head _),
          st_skip 12 17 _ true rfl rfl rfl rfl (List.Mem.head _),
          st_skip 12 17 _ true rfl rfl rfl rfl (List.Mem.head _),
          st_skip 12 17 _ true rfl rfl rfl rfl (List.Mem.head _),
          st_plain rfl (op_pick _ _ false _ rfl rfl),
          st_plain rfl (op_move _ _ _ _ rfl rfl),
          st_skip 19 24 _ true rfl rfl rfl rfl (List.Mem.head _),
          st_skip 19 24 _ true rfl rfl rfl rfl (List.Mem.head _),
          st_skip 19 24 _ true rfl rfl rfl rfl (List.Mem.head _),
          st_skip 19 24 _ true rfl rfl rfl rfl (List.Mem.head _),
          st_skip 19 24 _ true rfl rfl rfl rfl (List.Mem.head _),
          st_plain rfl (op_pick _ _ false _ rfl rfl),
          st_plain rfl (op_move _ _ _ _ rfl rfl),
          st_skip 26 31 _ true rfl rfl rfl rfl (List.Mem.head _),
          st_skip 26 31 _ true rfl rfl rfl rfl (List.Mem.head _),
          st_skip 26 31 _ true rfl rfl rfl rfl (List.Mem.head _),
          st_skip 26 31 _ true rfl rfl rfl rfl (List.Mem.head _),
          st_skip 26 31 _ true rfl rfl rfl rfl (List.Mem.head _),
          st_plain rfl (op_pick _ _ false _ rfl rfl),
          st_plain rfl (op_assign _ _ _ _ rfl rfl),
          trivial⟩ ?_
      exact hl4 _ (Option.some.inj h).symm

end Go.Proofs.Ytenfngliiibiiaa
