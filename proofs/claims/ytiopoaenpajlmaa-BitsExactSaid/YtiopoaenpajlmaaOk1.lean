/-
  The model's runs are what is told in Lean.
-/
import Derived.Test.YtiopoaenpajlmaaProg
import Derived.KernelRfl
import Derived.Test.YtiopoaenpajlmaaSh
set_option linter.unusedVariables false
set_option linter.unusedSimpArgs false
namespace Go.Proofs.Ytiopoaenpajlmaa
open Go.Abs Go.Abs.Sh

theorem sz22 : (Try.prog.info? 22).map (·.size) = some 1 := by kernel_rfl
theorem sz24 : (Try.prog.info? 24).map (·.size) = some 2 := by kernel_rfl
theorem zr24 : (Try.prog.info? 24).bind (·.zero) = some (.agg #[.slice none 0 0, .int .i64 0]) := by kernel_rfl
theorem el22 : ElemT Try.prog 22 5 1 1 := ⟨⟨Try.t5, .int .u8 0, Try.underlying22, by kernel_rfl, by kernel_rfl, by kernel_rfl, by kernel_rfl, by decide, by kernel_rfl⟩⟩
theorem sz3 : (Try.prog.info? 3).map (·.size) = some 1 := by kernel_rfl
theorem fs24 : ∀ fs, Try.prog.underlying 24 = some (.struct fs) → fs.toList.map (fun f => (Try.prog.info? f.type).map (·.size)) = ([1, 1] : List Nat).map some := by
  intro fs h
  rw [Try.underlying24] at h
  cases h
  kernel_rfl
theorem sz5 : (Try.prog.info? 5).map (·.size) = some 1 := by kernel_rfl
theorem zr5 : (Try.prog.info? 5).bind (·.zero) = some (.int .u8 0) := by kernel_rfl

set_option maxHeartbeats 1000000 in
theorem ok_wherrykeep_Twin (l : (List Int)) (r : (List Int)) (h : Sh.wherrykeep_Twin l = some r) : FnOK Try.prog 10 [.fl .shr 1 (List.map (Value.int .u8) l)] (.fl (.own 5) 1 (List.map (Value.int .u8) r)) := by
  unfold Sh.wherrykeep_Twin at h
  refine fn_ok Try.func10 rfl (Nat.le_of_ble_eq_true rfl) rfl rfl fun g0 hn hio => ?_
  refine ht_seq ?_
  refine ht_seqR hn (El := [_, (2, .v (.slice none 0 0))]) (init := [0]) (fin := [0]) (sps := [⟨[], [], [1], [(.slot 2)]⟩]) (es' := [(_, _)]) (by kernel_rfl) rfl rfl
    ⟨st_plain rfl (op_assign _ _ _ _ rfl rfl),
      trivial⟩ ?_
  refine pt_then ?_
  refine ht_seq ?_
  refine ht_seqR hn (El := [_, (3, .v (.slice none 0 0))]) (init := [0]) (fin := [0, 1]) (sps := [⟨[], [], [1], [(.slot 3)]⟩]) (es' := [(_, _), (3, .v (.slice none 0 0))]) (by kernel_rfl) rfl rfl
    ⟨st_plain rfl (op_assign _ _ _ _ rfl rfl),
      trivial⟩ ?_
  refine pt_then ?_
  refine ht_seq ?_
  obtain ⟨v1, hv1, h⟩ := bind_some h
  refine ht_seqR hn (El := [_, _, (4, .v (.slice none 0 0)), (5, .fl .shr 1 (List.map (Value.int .u8) l)), (6, .fl (.own 5) 1 (List.map (Value.int .u8) v1)), (2, .fl (.own 5) 1 (List.map (Value.int .u8) v1))]) (init := [0, 1]) (fin := [5]) (sps := [⟨[1], [], [2], [(.slot 4)]⟩, ⟨[0], [], [3], [(.slot 5)]⟩, ⟨[2, 3], [], [4], [(.slot 6)]⟩, ⟨[], [4], [5], [(.slot 2)]⟩]) (es' := [(2, .fl (.own 5) 1 (List.map (Value.int .u8) v1))]) (by kernel_rfl) rfl rfl
    ⟨st_plain rfl (op_move _ _ _ _ rfl rfl),
      st_plain rfl (op_move _ _ _ _ rfl rfl),
      st_plain rfl (op_app_nil _ _ _ _ el22 rfl rfl (map_len _) hv1 (congrArg (List.map _) (app_nil_eq hv1))),
      st_plain rfl (op_assign_take _ _ _ _ rfl),
      trivial⟩ ?_
  refine pt_then ?_
  refine ht_ret ?_
  obtain rfl := Option.some.inj h
  exact pt_ret hio rfl (.tmp _ _ .nil) rfl rfl

set_option maxHeartbeats 1000000 in
theorem ok_wherrylaw01_twin (s : T_Bits) (r : T_Bits) (h : Sh.wherrylaw01_twin s = some r) : FnOK Try.prog 9 [.agg [.fl .shr 1 (List.map (Value.int .u8) s.B), .v (.int .i64 s.N)]] (.agg [.fl (.own 5) 1 (List.map (Value.int .u8) r.B), .v (.int .i64 r.N)]) := by
  unfold Sh.wherrylaw01_twin at h
  refine fn_ok Try.func9 rfl (Nat.le_of_ble_eq_true rfl) rfl rfl fun g0 hn hio => ?_
  refine ht_seq ?_
  refine ht_seqR hn (El := [_, (1, .box 24 [.fl .shr 1 (List.map (Value.int .u8) s.B), .v (.int .i64 s.N)]), (2, .box 24 [.v (.slice none 0 0), .v (.int .i64 0)])]) (init := [0]) (fin := [1, 2]) (sps := [⟨[0], [], [1], [(.slot 1)]⟩, ⟨[], [], [2], [(.slot 2)]⟩]) (es' := [(1, .box 24 [.fl .shr 1 (List.map (Value.int .u8) s.B), .v (.int .i64 s.N)]), (2, .box 24 [.v (.slice none 0 0), .v (.int .i64 0)])]) (by kernel_rfl) rfl rfl
    ⟨st_plain rfl (op_box _ _ _ _ rfl rfl rfl),
      st_plain rfl (op_alloc _ _ zr24),
      trivial⟩ ?_
  refine pt_then ?_
  refine ht_seq ?_
  obtain ⟨v1, hv1, h⟩ := bind_some h
  refine ht_anyR (by kernel_rfl) hn (El := [_, _, (3, .ptr 1 0), (4, .fl .shr 1 (List.map (Value.int .u8) s.B)), (5, .fl (.own 5) 1 (List.map (Value.int .u8) v1)), (6, .ptr 1 1), (7, .v (.int .i64 s.N)), (8, .agg [.fl (.own 5) 1 (List.map (Value.int .u8) v1), .v (.int .i64 s.N)]), (2, .box 24 [.fl (.own 5) 1 (List.map (Value.int .u8) v1), .v (.int .i64 s.N)])]) (init := [0, 1]) (fin := [8]) (sps := [⟨[0], [], [2], [(.slot 3)]⟩, ⟨[2, 0], [], [3], [(.slot 4)]⟩, ⟨[3], [], [4], [(.slot 5)]⟩, ⟨[0], [], [5], [(.slot 6)]⟩, ⟨[5, 0], [], [6], [(.slot 7)]⟩, ⟨[6], [4], [7], [(.slot 8)]⟩, ⟨[], [7, 1], [8], [.cell 2 0, .cell 2 1]⟩]) (es' := [(2, .box 24 [.fl (.own 5) 1 (List.map (Value.int .u8) v1), .v (.int .i64 s.N)])]) (by kernel_rfl) rfl rfl
    ⟨st_plain rfl (op_fieldAddr _ _ _ _ 1 0 _ Try.underlying24 rfl sz22 rfl rfl (by decide)),
      st_plain rfl (op_load _ _ _ _ _ _ Try.underlying22 rfl rfl rfl (Nat.le_of_ble_eq_true rfl) rfl rfl rfl),
      st_plain rfl (op_call _ _ 10 _ _ rfl Try.call10 rfl (ok_wherrykeep_Twin s.B _ hv1) rfl rfl),
      st_plain rfl (op_fieldAddr _ _ _ _ 1 0 _ Try.underlying24 rfl sz3 rfl rfl (by decide)),
      st_plain rfl (op_load _ _ _ _ _ _ Try.underlying3 rfl rfl rfl (Nat.le_of_ble_eq_true rfl) rfl rfl rfl),
      st_plain rfl (op_build _ _ _ _ [1, 1] _ _ Try.underlying24 zr24 (fs24 _ Try.underlying24) (.take _ _ (.copy _ Src.nil)) rfl rfl rfl),
      st_plain rfl (op_store_take _ _ _ _ _ _ _ _ sz24 rfl rfl rfl (Nat.le_of_ble_eq_true rfl) rfl rfl),
      trivial⟩ ?_
  refine pt_then ?_
  refine ht_ret ?_
  obtain rfl := Option.some.inj h
  exact pt_ret hio rfl (.cellA _ _ _ _ Try.underlying24 rfl sz24 .nil) rfl rfl

set_option maxHeartbeats 1000000 in
theorem ok_wherryref01_in (n : Int) (lo : Int) (hi : Int) (r : Bool) (h : Sh.wherryref01_in n lo hi = some r) : FnOK Try.prog 25 [.v (.int .i64 n), .v (.int .i64 lo), .v (.int .i64 hi)] (.v (.bool r)) := by
  unfold Sh.wherryref01_in at h
  refine fn_ok Try.func25 rfl (Nat.le_of_ble_eq_true rfl) rfl rfl fun g0 hn hio => ?_
  refine ht_seq ?_
  refine ht_seqR hn (El := [_, _, _, (6, .v (.bool false))]) (init := [0, 1, 2]) (fin := [0, 1, 2]) (sps := [⟨[], [], [3], [(.slot 6)]⟩]) (es' := [(_, _), (_, _), (_, _)]) (by kernel_rfl) rfl rfl
    ⟨st_plain rfl (op_assign _ _ _ _ rfl rfl),
      trivial⟩ ?_
  refine pt_then ?_
  refine ht_seq ?_
  refine ht_joinS h (fun (s1 : Bool) => [(6, .v (.bool s1))]) ?_ ?_
  · rintro s1 h
    refine pt_then ?_
    refine ht_ret ?_
    obtain rfl := Option.some.inj h
    exact pt_ret hio rfl (.tmp _ _ .nil) rfl rfl
  · intro u2 h hl3 hr4
    refine cond_some h (fun hg1_3 h => ?_) (fun hg1_3 h => ?_)
    · refine ht_seqR hn (El := [_, _, _, (7, .v (.int .i64 n)), (8, .v (.int .i64 lo)), (9, .v (.bool ((decide (lo ≤ n))))), (10, .v (.bool true)), (11, .v (.int .i64 n)), (12, .v (.int .i64 hi)), (13, .v (.bool ((decide (n ≤ hi))))), (14, .v (.bool ((decide (n ≤ hi))))), (6, .v (.bool ((decide (n ≤ hi)))))]) (init := [0, 1, 2]) (fin := [11]) (sps := [⟨[0], [], [3], [(.slot 7)]⟩, ⟨[1], [], [4], [(.slot 8)]⟩, ⟨[3, 4], [], [5], [(.slot 9)]⟩, ⟨[5], [], [6], [(.slot 10)]⟩, ⟨[6, 0], [], [7], [(.slot 11)]⟩, ⟨[6, 2], [], [8], [(.slot 12)]⟩, ⟨[6, 7, 8], [], [9], [(.slot 13)]⟩, ⟨[6, 9], [], [10], [(.slot 14)]⟩, ⟨[10], [], [11], [(.slot 6)]⟩]) (es' := [(6, .v (.bool ((decide (n ≤ hi)))))]) (by kernel_rfl) rfl rfl
        ⟨st_plain rfl (op_move _ _ _ _ rfl rfl),
          st_plain rfl (op_move _ _ _ _ rfl rfl),
          st_plain rfl (op_bin _ _ _ _ _ rfl rfl rfl),
          st_plain rfl (op_move _ _ _ _ (congrArg (fun b => AV.v (Value.bool b)) hg1_3) rfl),
          st_run 3 10 true rfl rfl rfl (List.Mem.head _) (op_move _ _ _ _ rfl rfl),
          st_run 3 10 true rfl rfl rfl (List.Mem.head _) (op_move _ _ _ _ rfl rfl),
          st_run 3 10 true rfl rfl rfl (List.Mem.head _) (op_bin _ _ _ _ _ rfl rfl rfl),
          st_plain rfl (op_pick _ _ true _ rfl rfl),
          st_plain rfl (op_assign _ _ _ _ rfl rfl),
          trivial⟩ ?_
      exact hl3 _ (Option.some.inj h).symm
    · refine ht_seqR hn (El := [_, _, _, (7, .v (.int .i64 n)), (8, .v (.int .i64 lo)), (9, .v (.bool ((decide (lo ≤ n))))), (10, .v (.bool false)), (11, .v undef), (12, .v undef), (13, .v undef), (14, .v (.bool false)), (6, .v (.bool false))]) (init := [0, 1, 2]) (fin := [11]) (sps := [⟨[0], [], [3], [(.slot 7)]⟩, ⟨[1], [], [4], [(.slot 8)]⟩, ⟨[3, 4], [], [5], [(.slot 9)]⟩, ⟨[5], [], [6], [(.slot 10)]⟩, ⟨[6], [], [7], [(.slot 11)]⟩, ⟨[6], [], [8], [(.slot 12)]⟩, ⟨[6], [], [9], [(.slot 13)]⟩, ⟨[6], [], [10], [(.slot 14)]⟩, ⟨[10], [], [11], [(.slot 6)]⟩]) (es' := [(6, .v (.bool false))]) (by kernel_rfl) rfl rfl
        ⟨st_plain rfl (op_move _ _ _ _ rfl rfl),
          st_plain rfl (op_move _ _ _ _ rfl rfl),
          st_plain rfl (op_bin _ _ _ _ _ rfl rfl rfl),
          st_plain rfl (op_move _ _ _ _ (congrArg (fun b => AV.v (Value.bool b)) hg1_3) rfl),
          st_skip 3 10 _ true rfl rfl rfl rfl (List.Mem.head _),
          st_skip 3 10 _ true rfl rfl rfl rfl (List.Mem.head _),
          st_skip 3 10 _ true rfl rfl rfl rfl (List.Mem.head _),
          st_plain rfl (op_pick _ _ false _ rfl rfl),
          st_plain rfl (op_assign _ _ _ _ rfl rfl),
          trivial⟩ ?_
      exact hl3 _ (Option.some.inj h).symm

set_option maxHeartbeats 1000000 in
theorem ok_wherryref01_bit (b : (List Int)) (i : Int) (r : Int) (h : Sh.wherryref01_bit b i = some r) : FnOK Try.prog 26 [.fl .shr 1 (List.map (Value.int .u8) b), .v (.int .i64 i)] (.v (.int .i64 r)) := by
  unfold Sh.wherryref01_bit at h
  refine fn_ok Try.func26 rfl (Nat.le_of_ble_eq_true rfl) rfl rfl fun g0 hn hio => ?_
  refine ht_seq ?_
  refine ht_seqR hn (El := [_, _, (4, .v (.int .i64 0))]) (init := [0, 1]) (fin := [0, 1]) (sps := [⟨[], [], [2], [(.slot 4)]⟩]) (es' := [(_, _), (_, _)]) (by kernel_rfl) rfl rfl
    ⟨st_plain rfl (op_assign _ _ _ _ rfl rfl),
      trivial⟩ ?_
  refine pt_then ?_
  refine ht_seq ?_
  obtain ⟨v1, hv1, h⟩ := bind_some h
  obtain ⟨v2, hv2, h⟩ := bind_some h
  obtain ⟨v3, hv3, h⟩ := bind_some h
  obtain ⟨v4, hv4, h⟩ := bind_some h
  obtain ⟨v5, hv5, h⟩ := bind_some h
  obtain ⟨v6, hv6, h⟩ := bind_some h
  obtain ⟨v7, hv7, h⟩ := bind_some h
  obtain ⟨v8, hv8, h⟩ := bind_some h
  refine ht_seqR hn (El := [_, _, (5, .fl .shr 1 (List.map (Value.int .u8) b)), (6, .v (.int .i64 i)), (7, .v (.int .i64 v1)), (8, .eref (.slot 5) (v2 * 1)), (9, .v (.int .u8 v3)), (10, .v (.int .i64 i)), (11, .v (.int .i64 v4)), (12, .v (.int .u64 v5)), (13, .v (.int .u8 v6)), (14, .v (.int .i64 v7)), (15, .v (.int .i64 v8)), (4, .v (.int .i64 v8))]) (init := [0, 1]) (fin := [13]) (sps := [⟨[0], [], [2], [(.slot 5)]⟩, ⟨[1], [], [3], [(.slot 6)]⟩, ⟨[3], [], [4], [(.slot 7)]⟩, ⟨[2, 4], [], [5], [(.slot 8)]⟩, ⟨[5, 2], [], [6], [(.slot 9)]⟩, ⟨[1], [], [7], [(.slot 10)]⟩, ⟨[7], [], [8], [(.slot 11)]⟩, ⟨[8], [], [9], [(.slot 12)]⟩, ⟨[6, 9], [], [10], [(.slot 13)]⟩, ⟨[10], [], [11], [(.slot 14)]⟩, ⟨[11], [], [12], [(.slot 15)]⟩, ⟨[12], [], [13], [(.slot 4)]⟩]) (es' := [(4, .v (.int .i64 v8))]) (by kernel_rfl) rfl rfl
    ⟨st_plain rfl (op_move _ _ _ _ rfl rfl),
      st_plain rfl (op_move _ _ _ _ rfl rfl),
      st_plain rfl (op_bin _ _ _ _ _ rfl rfl (quo_ok hv1)),
      st_plain rfl (op_ix _ _ _ _ _ _ _ _ Try.underlying22 sz5 (by decide) rfl rfl rfl (ix_ok hv2).1 (map_lt (ix_ok hv2).2) rfl),
      st_plain rfl (op_load_e _ _ _ _ _ _ Try.underlying5 rfl rfl rfl (map_get hv3)),
      st_plain rfl (op_move _ _ _ _ rfl rfl),
      st_plain rfl (op_bin _ _ _ _ _ rfl rfl (rem_ok hv4)),
      st_plain rfl ((Option.some.inj hv5) ▸ op_conv _ _ _ Try.underlying3 Try.underlying43 rfl),
      st_plain rfl (op_bin _ _ _ _ _ rfl rfl (shr_ok hv6)),
      st_plain rfl ((Option.some.inj hv7) ▸ op_conv _ _ _ Try.underlying5 Try.underlying3 rfl),
      st_plain rfl (op_bin _ _ _ _ _ rfl rfl (ibind (f := Value.int .i64) (Option.some.inj hv8))),
      st_plain rfl (op_assign _ _ _ _ rfl rfl),
      trivial⟩ ?_
  refine pt_then ?_
  refine ht_ret ?_
  obtain rfl := Option.some.inj h
  exact pt_ret hio rfl (.tmp _ _ .nil) rfl rfl

set_option maxHeartbeats 1000000 in
theorem ok_wherryref01_RightBits (s : T_Bits) (r : Bool) (h : Sh.wherryref01_RightBits s = some r) : FnOK Try.prog 11 [.agg [.fl .shr 1 (List.map (Value.int .u8) s.B), .v (.int .i64 s.N)]] (.v (.bool r)) := by
  unfold Sh.wherryref01_RightBits at h
  refine fn_ok Try.func11 rfl (Nat.le_of_ble_eq_true rfl) rfl rfl fun g0 hn hio => ?_
  refine ht_seq ?_
  refine ht_seqR hn (El := [_, (1, .box 24 [.fl .shr 1 (List.map (Value.int .u8) s.B), .v (.int .i64 s.N)]), (2, .v (.bool false))]) (init := [0]) (fin := [1]) (sps := [⟨[0], [], [1], [(.slot 1)]⟩, ⟨[], [], [2], [(.slot 2)]⟩]) (es' := [(1, .box 24 [.fl .shr 1 (List.map (Value.int .u8) s.B), .v (.int .i64 s.N)])]) (by kernel_rfl) rfl rfl
    ⟨st_plain rfl (op_box _ _ _ _ rfl rfl rfl),
      st_plain rfl (op_assign _ _ _ _ rfl rfl),
      trivial⟩ ?_
  refine pt_then ?_
  refine ht_seq ?_
  refine ht_seq ?_
  refine ht_joinS h (fun (s4 : Bool) => [(1, .box 24 [.fl .shr 1 (List.map (Value.int .u8) s.B), .v (.int .i64 s.N)]), (17, .v (.bool s4))]) ?_ ?_
  · rintro s4 h
    refine pt_then ?_
    refine ht_cond _ rfl (fun hb8 => ?_) (fun hb8 => ?_)
    · have h := cond_t hb8 h
      refine ht_seq ?_
      refine ht_seqR hn (El := [_, _, (2, .v (.bool false))]) (init := [0, 1]) (fin := [2]) (sps := [⟨[], [], [2], [(.slot 2)]⟩]) (es' := [(2, .v (.bool false))]) (by kernel_rfl) rfl rfl
        ⟨st_plain rfl (op_assign _ _ _ _ rfl rfl),
          trivial⟩ ?_
      refine pt_then ?_
      refine ht_ret ?_
      refine pt_r_then ?_
      obtain rfl := Option.some.inj h
      exact pt_ret hio rfl (.tmp _ _ .nil) rfl rfl
    · have h := cond_f hb8 h
      refine ht_skip ?_
      refine pt_then ?_
      refine ht_seq ?_
      refine ht_seq ?_
      refine ht_seqR hn (El := [_, _, (18, .ptr 1 1), (19, .v (.int .i64 s.N)), (3, .v (.int .i64 s.N))]) (init := [0, 1]) (fin := [0, 4]) (sps := [⟨[0], [], [2], [(.slot 18)]⟩, ⟨[2, 0], [], [3], [(.slot 19)]⟩, ⟨[3], [], [4], [(.slot 3)]⟩]) (es' := [(_, _), (3, .v (.int .i64 s.N))]) (by kernel_rfl) rfl rfl
        ⟨st_plain rfl (op_fieldAddr _ _ _ _ 1 0 _ Try.underlying24 rfl sz3 rfl rfl (by decide)),
          st_plain rfl (op_load _ _ _ _ _ _ Try.underlying3 rfl rfl rfl (Nat.le_of_ble_eq_true rfl) rfl rfl rfl),
          st_plain rfl (op_assign _ _ _ _ rfl rfl),
          trivial⟩ ?_
      refine pt_then ?_
      refine ht_loopS h (fun (s17 : Int) => [(1, .box 24 [.fl .shr 1 (List.map (Value.int .u8) s.B), .v (.int .i64 s.N)]), (3, .v (.int .i64 s17))]) (fun (() : Unit) => []) ?_ ?_
      · rintro ⟨⟩ h
        refine pt_then ?_
        refine ht_seq ?_
        refine ht_seqR hn (El := [(2, .v (.bool true))]) (init := []) (fin := [0]) (sps := [⟨[], [], [0], [(.slot 2)]⟩]) (es' := [(2, .v (.bool true))]) (by kernel_rfl) rfl rfl
          ⟨st_plain rfl (op_assign _ _ _ _ rfl rfl),
            trivial⟩ ?_
        refine pt_then ?_
        refine ht_ret ?_
        obtain rfl := Option.some.inj h
        exact pt_ret hio rfl (.tmp _ _ .nil) rfl rfl
      · rintro u20 hl21 hr22 s17 rr25 h ho23
        refine ht_seq ?_
        refine ht_seq ?_
        obtain ⟨v9, hv9, h⟩ := bind_some h
        refine ht_seqR hn (El := [_, _, (20, .v (.int .i64 s17)), (21, .ptr 1 0), (22, .fl .shr 1 (List.map (Value.int .u8) s.B)), (23, .v (.int .i64 (s.B.length : Int))), (24, .v (.int .i64 v9)), (25, .v (.bool ((decide (s17 < v9)))))]) (init := [0, 1]) (fin := [0, 1, 7]) (sps := [⟨[1], [], [2], [(.slot 20)]⟩, ⟨[0], [], [3], [(.slot 21)]⟩, ⟨[3, 0], [], [4], [(.slot 22)]⟩, ⟨[4], [], [5], [(.slot 23)]⟩, ⟨[5], [], [6], [(.slot 24)]⟩, ⟨[2, 6], [], [7], [(.slot 25)]⟩]) (es' := [(_, _), (_, _), (25, .v (.bool ((decide (s17 < v9)))))]) (by kernel_rfl) rfl rfl
          ⟨st_plain rfl (op_move _ _ _ _ rfl rfl),
            st_plain rfl (op_fieldAddr _ _ _ _ 1 0 _ Try.underlying24 rfl sz22 rfl rfl (by decide)),
            st_plain rfl (op_load _ _ _ _ _ _ Try.underlying22 rfl rfl rfl (Nat.le_of_ble_eq_true rfl) rfl rfl rfl),
            st_plain rfl (op_len_fl _ _ _ Try.underlying22 rfl (by decide) (map_len _)),
            st_plain rfl (op_bin _ _ _ _ _ rfl rfl (ibind (f := Value.int .i64) (Option.some.inj hv9))),
            st_plain rfl (op_bin _ _ _ _ _ rfl rfl rfl),
            trivial⟩ ?_
        refine pt_then ?_
        refine ht_cond _ rfl (fun hb26 => ?_) (fun hb26 => ?_)
        · have h := cond_t hb26 h
          refine ht_skip ?_
          refine pt_then ?_
          refine ht_seq ?_
          refine ht_block ?_
          refine ht_seq ?_
          obtain ⟨v11, hv11, h⟩ := bind_some h
          refine ht_seqR hn (El := [_, _, _, (28, .ptr 1 0), (29, .fl .shr 1 (List.map (Value.int .u8) s.B)), (30, .v (.int .i64 s17)), (31, .v (.int .i64 v11)), (32, .v (.bool (v11 != 0)))]) (init := [0, 1, 2]) (fin := [0, 1, 7]) (sps := [⟨[0], [], [3], [(.slot 28)]⟩, ⟨[3, 0], [], [4], [(.slot 29)]⟩, ⟨[1], [], [5], [(.slot 30)]⟩, ⟨[4, 5], [], [6], [(.slot 31)]⟩, ⟨[6], [], [7], [(.slot 32)]⟩]) (es' := [(_, _), (_, _), (32, .v (.bool (v11 != 0)))]) (by kernel_rfl) rfl rfl
            ⟨st_plain rfl (op_fieldAddr _ _ _ _ 1 0 _ Try.underlying24 rfl sz22 rfl rfl (by decide)),
              st_plain rfl (op_load _ _ _ _ _ _ Try.underlying22 rfl rfl rfl (Nat.le_of_ble_eq_true rfl) rfl rfl rfl),
              st_plain rfl (op_move _ _ _ _ rfl rfl),
              st_plain rfl (op_call _ _ 26 _ _ rfl Try.call26 rfl (ok_wherryref01_bit s.B s17 _ hv11) rfl rfl),
              st_plain rfl (op_bin _ _ _ _ _ rfl rfl rfl),
              trivial⟩ ?_
          refine pt_then ?_
          refine ht_cond _ rfl (fun hb27 => ?_) (fun hb27 => ?_)
          · have h := cond_t hb27 h
            refine ht_seq ?_
            refine ht_seqR hn (El := [_, _, _, (2, .v (.bool false))]) (init := [0, 1, 2]) (fin := [3]) (sps := [⟨[], [], [3], [(.slot 2)]⟩]) (es' := [(2, .v (.bool false))]) (by kernel_rfl) rfl rfl
              ⟨st_plain rfl (op_assign _ _ _ _ rfl rfl),
                trivial⟩ ?_
            refine pt_then ?_
            refine ht_ret ?_
            refine pt_r_in ?_
            refine pt_r_then ?_
            refine pt_r_then ?_
            refine pt_r_in ?_
            refine pt_r_then ?_
            have h := hr22 _ (ho23 _ (Option.some.inj h).symm).symm
            obtain rfl := Option.some.inj h
            exact pt_ret hio rfl (.tmp _ _ .nil) rfl rfl
          · have h := cond_f hb27 h
            refine ht_skip ?_
            refine pt_inb ?_
            refine pt_then ?_
            obtain ⟨v13, hv13, h⟩ := bind_some h
            refine ht_seqR hn (El := [_, _, _, (26, .v (.int .i64 s17)), (27, .v (.int .i64 v13)), (3, .v (.int .i64 v13))]) (init := [0, 1, 2]) (fin := [0, 5]) (sps := [⟨[1], [], [3], [(.slot 26)]⟩, ⟨[3], [], [4], [(.slot 27)]⟩, ⟨[4], [1], [5], [(.slot 3)]⟩]) (es' := [(_, _), (3, .v (.int .i64 v13))]) (by kernel_rfl) rfl rfl
              ⟨st_plain rfl (op_move _ _ _ _ rfl rfl),
                st_plain rfl (op_bin _ _ _ _ _ rfl rfl (ibind (f := Value.int .i64) (Option.some.inj hv13))),
                st_plain rfl (LOp.drop [_] (op_assign _ _ _ _ rfl rfl)),
                trivial⟩ ?_
            exact pt_next _ (Option.some.inj h).symm rfl
        · have h := cond_f hb26 h
          refine ht_exit ?_
          refine pt_x_then ?_
          refine pt_x_then ?_
          refine pt_x_in ?_
          refine pt_pick [] (by kernel_rfl) (es' := []) rfl ?_
          exact hl21 _ (ho23 _ (Option.some.inj h).symm).symm
  · intro u5 h hl6 hr7
    obtain ⟨v1, hv1, h⟩ := bind_some h
    refine cond_some h (fun hg1_4 h => ?_) (fun hg1_4 h => ?_)
    · refine ht_seqR hn (El := (_ :: (4, .ptr 1 1) :: (5, .v (.int .i64 s.N)) :: (6, .v (.bool v1)) :: (7, .v (.bool (!v1))) :: (8, .v (.bool true)) :: (9, .v undef) :: (10, .v undef) :: (11, .v undef) :: (12, .v undef) :: (13, .v undef) :: (14, .v undef) :: (15, .v undef) :: (16, .v undef) :: (17, .v (.bool true)) :: [])) (init := [0]) (fin := [0, 14]) (sps := [⟨[0], [], [1], [(.slot 4)]⟩, ⟨[1, 0], [], [2], [(.slot 5)]⟩, ⟨[2], [], [3], [(.slot 6)]⟩, ⟨[3], [], [4], [(.slot 7)]⟩, ⟨[4], [], [5], [(.slot 8)]⟩, ⟨[5], [], [6], [(.slot 9)]⟩, ⟨[5], [], [7], [(.slot 10)]⟩, ⟨[5], [], [8], [(.slot 11)]⟩, ⟨[5], [], [9], [(.slot 12)]⟩, ⟨[5], [], [10], [(.slot 13)]⟩, ⟨[5], [], [11], [(.slot 14)]⟩, ⟨[5], [], [12], [(.slot 15)]⟩, ⟨[5], [], [13], [(.slot 16)]⟩, ⟨[5], [], [14], [(.slot 17)]⟩]) (es' := [(_, _), (17, .v (.bool true))]) (by kernel_rfl) rfl rfl
        ⟨st_plain rfl (op_fieldAddr _ _ _ _ 1 0 _ Try.underlying24 rfl sz3 rfl rfl (by decide)),
          st_plain rfl (op_load _ _ _ _ _ _ Try.underlying3 rfl rfl rfl (Nat.le_of_ble_eq_true rfl) rfl rfl rfl),
          st_plain rfl (op_call _ _ 25 _ _ rfl Try.call25 rfl (ok_wherryref01_in s.N 0 40000 _ hv1) rfl rfl),
          st_plain rfl (op_un _ _ _ _ rfl rfl),
          st_plain rfl (op_move _ _ _ _ (congrArg (fun b => AV.v (Value.bool b)) hg1_4) rfl),
          st_skip 4 8 _ false rfl rfl rfl rfl (List.Mem.head _),
          st_skip 4 8 _ false rfl rfl rfl rfl (List.Mem.head _),
          st_skip 4 8 _ false rfl rfl rfl rfl (List.Mem.head _),
          st_skip 4 8 _ false rfl rfl rfl rfl (List.Mem.head _),
          st_skip 4 8 _ false rfl rfl rfl rfl (List.Mem.head _),
          st_skip 4 8 _ false rfl rfl rfl rfl (List.Mem.head _),
          st_skip 4 8 _ false rfl rfl rfl rfl (List.Mem.head _),
          st_skip 4 8 _ false rfl rfl rfl rfl (List.Mem.head _),
          st_plain rfl (op_pick _ _ true _ rfl rfl),
          trivial⟩ ?_
      exact hl6 _ (Option.some.inj h).symm
    · obtain ⟨v2, hv2, h⟩ := bind_some h
      obtain ⟨v3, hv3, h⟩ := bind_some h
      refine ht_seqR hn (El := (_ :: (4, .ptr 1 1) :: (5, .v (.int .i64 s.N)) :: (6, .v (.bool v1)) :: (7, .v (.bool (!v1))) :: (8, .v (.bool false)) :: (9, .ptr 1 0) :: (10, .fl .shr 1 (List.map (Value.int .u8) s.B)) :: (11, .v (.int .i64 (s.B.length : Int))) :: (12, .ptr 1 1) :: (13, .v (.int .i64 s.N)) :: (14, .v (.int .i64 v2)) :: (15, .v (.int .i64 v3)) :: (16, .v (.bool (((s.B.length : Int) != v3)))) :: (17, .v (.bool (((s.B.length : Int) != v3)))) :: [])) (init := [0]) (fin := [0, 14]) (sps := [⟨[0], [], [1], [(.slot 4)]⟩, ⟨[1, 0], [], [2], [(.slot 5)]⟩, ⟨[2], [], [3], [(.slot 6)]⟩, ⟨[3], [], [4], [(.slot 7)]⟩, ⟨[4], [], [5], [(.slot 8)]⟩, ⟨[5, 0], [], [6], [(.slot 9)]⟩, ⟨[5, 6, 0], [], [7], [(.slot 10)]⟩, ⟨[5, 7], [], [8], [(.slot 11)]⟩, ⟨[5, 0], [], [9], [(.slot 12)]⟩, ⟨[5, 9, 0], [], [10], [(.slot 13)]⟩, ⟨[5, 10], [], [11], [(.slot 14)]⟩, ⟨[5, 11], [], [12], [(.slot 15)]⟩, ⟨[5, 8, 12], [], [13], [(.slot 16)]⟩, ⟨[5, 13], [], [14], [(.slot 17)]⟩]) (es' := [(_, _), (17, .v (.bool (((s.B.length : Int) != v3))))]) (by kernel_rfl) rfl rfl
        ⟨st_plain rfl (op_fieldAddr _ _ _ _ 1 0 _ Try.underlying24 rfl sz3 rfl rfl (by decide)),
          st_plain rfl (op_load _ _ _ _ _ _ Try.underlying3 rfl rfl rfl (Nat.le_of_ble_eq_true rfl) rfl rfl rfl),
          st_plain rfl (op_call _ _ 25 _ _ rfl Try.call25 rfl (ok_wherryref01_in s.N 0 40000 _ hv1) rfl rfl),
          st_plain rfl (op_un _ _ _ _ rfl rfl),
          st_plain rfl (op_move _ _ _ _ (congrArg (fun b => AV.v (Value.bool b)) hg1_4) rfl),
          st_run 4 8 false rfl rfl rfl (List.Mem.head _) (op_fieldAddr _ _ _ _ 1 0 _ Try.underlying24 rfl sz22 rfl rfl (by decide)),
          st_run 4 8 false rfl rfl rfl (List.Mem.head _) (op_load _ _ _ _ _ _ Try.underlying22 rfl rfl rfl (Nat.le_of_ble_eq_true rfl) rfl rfl rfl),
          st_run 4 8 false rfl rfl rfl (List.Mem.head _) (op_len_fl _ _ _ Try.underlying22 rfl (by decide) (map_len _)),
          st_run 4 8 false rfl rfl rfl (List.Mem.head _) (op_fieldAddr _ _ _ _ 1 0 _ Try.underlying24 rfl sz3 rfl rfl (by decide)),
          st_run 4 8 false rfl rfl rfl (List.Mem.head _) (op_load _ _ _ _ _ _ Try.underlying3 rfl rfl rfl (Nat.le_of_ble_eq_true rfl) rfl rfl rfl),
          st_run 4 8 false rfl rfl rfl (List.Mem.head _) (op_bin _ _ _ _ _ rfl rfl (ibind (f := Value.int .i64) (Option.some.inj hv2))),
          st_run 4 8 false rfl rfl rfl (List.Mem.head _) (op_bin _ _ _ _ _ rfl rfl (quo_ok hv3)),
          st_run 4 8 false rfl rfl rfl (List.Mem.head _) (op_bin _ _ _ _ _ rfl rfl rfl),
          st_plain rfl (op_pick _ _ false _ rfl rfl),
          trivial⟩ ?_
      exact hl6 _ (Option.some.inj h).symm

set_option maxHeartbeats 1000000 in
theorem ok_bits_bytesFor (n : Int) (r : Int) (h : Sh.bits_bytesFor n = some r) : FnOK Try.prog 28 [.v (.int .i64 n)] (.v (.int .i64 r)) := by
  unfold Sh.bits_bytesFor at h
  refine fn_ok Try.func28 rfl (Nat.le_of_ble_eq_true rfl) rfl rfl fun g0 hn hio => ?_
  refine ht_seq ?_
  refine ht_seqR hn (El := [_, (2, .v (.int .i64 0))]) (init := [0]) (fin := [0]) (sps := [⟨[], [], [1], [(.slot 2)]⟩]) (es' := [(_, _)]) (by kernel_rfl) rfl rfl
    ⟨st_plain rfl (op_assign _ _ _ _ rfl rfl),
      trivial⟩ ?_
  refine pt_then ?_
  refine ht_seq ?_
  obtain ⟨v1, hv1, h⟩ := bind_some h
  obtain ⟨v2, hv2, h⟩ := bind_some h
  refine ht_seqR hn (El := [_, (3, .v (.int .i64 n)), (4, .v (.int .i64 v1)), (5, .v (.int .i64 v2)), (2, .v (.int .i64 v2))]) (init := [0]) (fin := [4]) (sps := [⟨[0], [], [1], [(.slot 3)]⟩, ⟨[1], [], [2], [(.slot 4)]⟩, ⟨[2], [], [3], [(.slot 5)]⟩, ⟨[3], [], [4], [(.slot 2)]⟩]) (es' := [(2, .v (.int .i64 v2))]) (by kernel_rfl) rfl rfl
    ⟨st_plain rfl (op_move _ _ _ _ rfl rfl),
      st_plain rfl (op_bin _ _ _ _ _ rfl rfl (ibind (f := Value.int .i64) (Option.some.inj hv1))),
      st_plain rfl (op_bin _ _ _ _ _ rfl rfl (quo_ok hv2)),
      st_plain rfl (op_assign _ _ _ _ rfl rfl),
      trivial⟩ ?_
  refine pt_then ?_
  refine ht_ret ?_
  obtain rfl := Option.some.inj h
  exact pt_ret hio rfl (.tmp _ _ .nil) rfl rfl

set_option maxHeartbeats 1000000 in
theorem ok_bits_Check (s : T_Bits) (r : Int) (h : Sh.bits_Check s = some r) : FnOK Try.prog 16 [.agg [.fl .shr 1 (List.map (Value.int .u8) s.B), .v (.int .i64 s.N)]] (.v (.int .i64 r)) := by
  unfold Sh.bits_Check at h
  refine fn_ok Try.func16 rfl (Nat.le_of_ble_eq_true rfl) rfl rfl fun g0 hn hio => ?_
  refine ht_seq ?_
  refine ht_seqR hn (El := [_, (1, .box 24 [.fl .shr 1 (List.map (Value.int .u8) s.B), .v (.int .i64 s.N)]), (2, .v (.int .i64 0))]) (init := [0]) (fin := [1]) (sps := [⟨[0], [], [1], [(.slot 1)]⟩, ⟨[], [], [2], [(.slot 2)]⟩]) (es' := [(1, .box 24 [.fl .shr 1 (List.map (Value.int .u8) s.B), .v (.int .i64 s.N)])]) (by kernel_rfl) rfl rfl
    ⟨st_plain rfl (op_box _ _ _ _ rfl rfl rfl),
      st_plain rfl (op_assign _ _ _ _ rfl rfl),
      trivial⟩ ?_
  refine pt_then ?_
  refine ht_seq ?_
  refine ht_seq ?_
  refine ht_joinS h (fun (s2 : Bool) => [(1, .box 24 [.fl .shr 1 (List.map (Value.int .u8) s.B), .v (.int .i64 s.N)]), (20, .v (.bool s2))]) ?_ ?_
  · rintro s2 h
    refine pt_then ?_
    refine ht_cond _ rfl (fun hb6 => ?_) (fun hb6 => ?_)
    · have h := cond_t hb6 h
      refine ht_seq ?_
      refine ht_seqR hn (El := [_, _, (2, .v (.int .i64 1))]) (init := [0, 1]) (fin := [2]) (sps := [⟨[], [], [2], [(.slot 2)]⟩]) (es' := [(2, .v (.int .i64 1))]) (by kernel_rfl) rfl rfl
        ⟨st_plain rfl (op_assign _ _ _ _ rfl rfl),
          trivial⟩ ?_
      refine pt_then ?_
      refine ht_ret ?_
      refine pt_r_then ?_
      obtain rfl := Option.some.inj h
      exact pt_ret hio rfl (.tmp _ _ .nil) rfl rfl
    · have h := cond_f hb6 h
      refine ht_skip ?_
      refine pt_then ?_
      refine ht_seq ?_
      refine ht_seq ?_
      obtain ⟨v7, hv7, h⟩ := bind_some h
      refine ht_seqR hn (El := [_, _, (21, .ptr 1 1), (22, .v (.int .i64 s.N)), (23, .v (.int .i64 v7)), (3, .v (.int .i64 v7))]) (init := [0, 1]) (fin := [0, 5]) (sps := [⟨[0], [], [2], [(.slot 21)]⟩, ⟨[2, 0], [], [3], [(.slot 22)]⟩, ⟨[3], [], [4], [(.slot 23)]⟩, ⟨[4], [], [5], [(.slot 3)]⟩]) (es' := [(_, _), (3, .v (.int .i64 v7))]) (by kernel_rfl) rfl rfl
        ⟨st_plain rfl (op_fieldAddr _ _ _ _ 1 0 _ Try.underlying24 rfl sz3 rfl rfl (by decide)),
          st_plain rfl (op_load _ _ _ _ _ _ Try.underlying3 rfl rfl rfl (Nat.le_of_ble_eq_true rfl) rfl rfl rfl),
          st_plain rfl (op_bin _ _ _ _ _ rfl rfl (rem_ok hv7)),
          st_plain rfl (op_assign _ _ _ _ rfl rfl),
          trivial⟩ ?_
      refine pt_then ?_
      refine ht_seq ?_
      refine ht_joinS h (fun (s12 : Bool) => [(38, .v (.bool s12))]) ?_ ?_
      · rintro s12 h
        refine pt_then ?_
        refine ht_cond _ rfl (fun hb16 => ?_) (fun hb16 => ?_)
        · have h := cond_t hb16 h
          refine ht_seq ?_
          refine ht_seqR hn (El := [_, (2, .v (.int .i64 1))]) (init := [0]) (fin := [1]) (sps := [⟨[], [], [1], [(.slot 2)]⟩]) (es' := [(2, .v (.int .i64 1))]) (by kernel_rfl) rfl rfl
            ⟨st_plain rfl (op_assign _ _ _ _ rfl rfl),
              trivial⟩ ?_
          refine pt_then ?_
          refine ht_ret ?_
          refine pt_r_then ?_
          obtain rfl := Option.some.inj h
          exact pt_ret hio rfl (.tmp _ _ .nil) rfl rfl
        · have h := cond_f hb16 h
          refine ht_skip ?_
          refine pt_then ?_
          refine ht_seq ?_
          refine ht_seqR hn (El := [_, (2, .v (.int .i64 0))]) (init := [0]) (fin := [1]) (sps := [⟨[], [], [1], [(.slot 2)]⟩]) (es' := [(2, .v (.int .i64 0))]) (by kernel_rfl) rfl rfl
            ⟨st_plain rfl (op_assign _ _ _ _ rfl rfl),
              trivial⟩ ?_
          refine pt_then ?_
          refine ht_ret ?_
          obtain rfl := Option.some.inj h
          exact pt_ret hio rfl (.tmp _ _ .nil) rfl rfl
      · intro u13 h hl14 hr15
        refine cond_some h (fun hg4_2 h => ?_) (fun hg4_2 h => ?_)
        · obtain ⟨v8, hv8, h⟩ := bind_some h
          obtain ⟨v9, hv9, h⟩ := bind_some h
          obtain ⟨v10, hv10, h⟩ := bind_some h
          obtain ⟨v11, hv11, h⟩ := bind_some h
          refine ht_seqR hn (El := (_ :: _ :: (24, .v (.int .i64 v7)) :: (25, .v (.bool (v7 != 0))) :: (26, .v (.bool true)) :: (27, .ptr 1 0) :: (28, .fl .shr 1 (List.map (Value.int .u8) s.B)) :: (29, .ptr 1 0) :: (30, .fl .shr 1 (List.map (Value.int .u8) s.B)) :: (31, .v (.int .i64 (s.B.length : Int))) :: (32, .v (.int .i64 v8)) :: (33, .eref (.slot 28) (v9 * 1)) :: (34, .v (.int .u8 v10)) :: (35, .v (.int .i64 v7)) :: (36, .v (.int .u8 v11)) :: (37, .v (.bool (v11 != 0))) :: (38, .v (.bool (v11 != 0))) :: [])) (init := [0, 1]) (fin := [16]) (sps := (⟨[1], [], [2], [(.slot 24)]⟩ :: ⟨[2], [], [3], [(.slot 25)]⟩ :: ⟨[3], [], [4], [(.slot 26)]⟩ :: ⟨[4, 0], [], [5], [(.slot 27)]⟩ :: ⟨[4, 5, 0], [], [6], [(.slot 28)]⟩ :: ⟨[4, 0], [], [7], [(.slot 29)]⟩ :: ⟨[4, 7, 0], [], [8], [(.slot 30)]⟩ :: ⟨[4, 8], [], [9], [(.slot 31)]⟩ :: ⟨[4, 9], [], [10], [(.slot 32)]⟩ :: ⟨[4, 6, 10], [], [11], [(.slot 33)]⟩ :: ⟨[4, 11, 6], [], [12], [(.slot 34)]⟩ :: ⟨[4, 1], [], [13], [(.slot 35)]⟩ :: ⟨[4, 12, 13], [], [14], [(.slot 36)]⟩ :: ⟨[4, 14], [], [15], [(.slot 37)]⟩ :: ⟨[4, 15], [], [16], [(.slot 38)]⟩ :: [])) (es' := [(38, .v (.bool (v11 != 0)))]) (by kernel_rfl) rfl rfl
            ⟨st_plain rfl (op_move _ _ _ _ rfl rfl),
              st_plain rfl (op_bin _ _ _ _ _ rfl rfl rfl),
              st_plain rfl (op_move _ _ _ _ (congrArg (fun b => AV.v (Value.bool b)) hg4_2) rfl),
              st_run 2 26 true rfl rfl rfl (List.Mem.head _) (op_fieldAddr _ _ _ _ 1 0 _ Try.underlying24 rfl sz22 rfl rfl (by decide)),
              st_run 2 26 true rfl rfl rfl (List.Mem.head _) (op_load _ _ _ _ _ _ Try.underlying22 rfl rfl rfl (Nat.le_of_ble_eq_true rfl) rfl rfl rfl),
              st_run 2 26 true rfl rfl rfl (List.Mem.head _) (op_fieldAddr _ _ _ _ 1 0 _ Try.underlying24 rfl sz22 rfl rfl (by decide)),
              st_run 2 26 true rfl rfl rfl (List.Mem.head _) (op_load _ _ _ _ _ _ Try.underlying22 rfl rfl rfl (Nat.le_of_ble_eq_true rfl) rfl rfl rfl),
              st_run 2 26 true rfl rfl rfl (List.Mem.head _) (op_len_fl _ _ _ Try.underlying22 rfl (by decide) (map_len _)),
              st_run 2 26 true rfl rfl rfl (List.Mem.head _) (op_bin _ _ _ _ _ rfl rfl (ibind (f := Value.int .i64) (Option.some.inj hv8))),
              st_run 2 26 true rfl rfl rfl (List.Mem.head _) (op_ix _ _ _ _ _ _ _ _ Try.underlying22 sz5 (by decide) rfl rfl rfl (ix_ok hv9).1 (map_lt (ix_ok hv9).2) rfl),
              st_run 2 26 true rfl rfl rfl (List.Mem.head _) (op_load_e _ _ _ _ _ _ Try.underlying5 rfl rfl rfl (map_get hv10)),
              st_run 2 26 true rfl rfl rfl (List.Mem.head _) (op_move _ _ _ _ rfl rfl),
              st_run 2 26 true rfl rfl rfl (List.Mem.head _) (op_bin _ _ _ _ _ rfl rfl (shr_ok hv11)),
              st_run 2 26 true rfl rfl rfl (List.Mem.head _) (op_bin _ _ _ _ _ rfl rfl rfl),
              st_plain rfl (op_pick _ _ true _ rfl rfl),
              trivial⟩ ?_
          exact hl14 _ (Option.some.inj h).symm
        · refine ht_seqR hn (El := (_ :: _ :: (24, .v (.int .i64 v7)) :: (25, .v (.bool (v7 != 0))) :: (26, .v (.bool false)) :: (27, .v undef) :: (28, .v undef) :: (29, .v undef) :: (30, .v undef) :: (31, .v undef) :: (32, .v undef) :: (33, .v undef) :: (34, .v undef) :: (35, .v undef) :: (36, .v undef) :: (37, .v undef) :: (38, .v (.bool false)) :: [])) (init := [0, 1]) (fin := [16]) (sps := (⟨[1], [], [2], [(.slot 24)]⟩ :: ⟨[2], [], [3], [(.slot 25)]⟩ :: ⟨[3], [], [4], [(.slot 26)]⟩ :: ⟨[4], [], [5], [(.slot 27)]⟩ :: ⟨[4], [], [6], [(.slot 28)]⟩ :: ⟨[4], [], [7], [(.slot 29)]⟩ :: ⟨[4], [], [8], [(.slot 30)]⟩ :: ⟨[4], [], [9], [(.slot 31)]⟩ :: ⟨[4], [], [10], [(.slot 32)]⟩ :: ⟨[4], [], [11], [(.slot 33)]⟩ :: ⟨[4], [], [12], [(.slot 34)]⟩ :: ⟨[4], [], [13], [(.slot 35)]⟩ :: ⟨[4], [], [14], [(.slot 36)]⟩ :: ⟨[4], [], [15], [(.slot 37)]⟩ :: ⟨[4], [], [16], [(.slot 38)]⟩ :: [])) (es' := [(38, .v (.bool false))]) (by kernel_rfl) rfl rfl
            ⟨st_plain rfl (op_move _ _ _ _ rfl rfl),
              st_plain rfl (op_bin _ _ _ _ _ rfl rfl rfl),
              st_plain rfl (op_move _ _ _ _ (congrArg (fun b => AV.v (Value.bool b)) hg4_2) rfl),
              st_skip 2 26 _ true rfl rfl rfl rfl (List.Mem.head _),
              st_skip 2 26 _ true rfl rfl rfl rfl (List.Mem.head _),
              st_skip 2 26 _ true rfl rfl rfl rfl (List.Mem.head _),
              st_skip 2 26 _ true rfl rfl rfl rfl (List.Mem.head _),
              st_skip 2 26 _ true rfl rfl rfl rfl (List.Mem.head _),
              st_skip 2 26 _ true rfl rfl rfl rfl (List.Mem.head _),
              st_skip 2 26 _ true rfl rfl rfl rfl (List.Mem.head _),
              st_skip 2 26 _ true rfl rfl rfl rfl (List.Mem.head _),
              st_skip 2 26 _ true rfl rfl rfl rfl (List.Mem.head _),
              st_skip 2 26 _ true rfl rfl rfl rfl (List.Mem.head _),
              st_skip 2 26 _ true rfl rfl rfl rfl (List.Mem.head _),
              st_plain rfl (op_pick _ _ false _ rfl rfl),
              trivial⟩ ?_
          exact hl14 _ (Option.some.inj h).symm
  · intro u3 h hl4 hr5
    refine cond_some h (fun hg1_3 h => ?_) (fun hg1_3 h => ?_)
    · refine ht_anyR (by kernel_rfl) hn (El := (_ :: (4, .ptr 1 1) :: (5, .v (.int .i64 s.N)) :: (6, .v (.bool ((decide (s.N < 0))))) :: (7, .v (.bool true)) :: (8, .v undef) :: (9, .v undef) :: (10, .v undef) :: (11, .v (.bool true)) :: (12, .v (.bool true)) :: (13, .v undef) :: (14, .v undef) :: (15, .v undef) :: (16, .v undef) :: (17, .v undef) :: (18, .v undef) :: (19, .v undef) :: (20, .v (.bool true)) :: [])) (init := [0]) (fin := [0, 17]) (sps := (⟨[0], [], [1], [(.slot 4)]⟩ :: ⟨[1, 0], [], [2], [(.slot 5)]⟩ :: ⟨[2], [], [3], [(.slot 6)]⟩ :: ⟨[3], [], [4], [(.slot 7)]⟩ :: ⟨[4], [], [5], [(.slot 8)]⟩ :: ⟨[4], [], [6], [(.slot 9)]⟩ :: ⟨[4], [], [7], [(.slot 10)]⟩ :: ⟨[4], [], [8], [(.slot 11)]⟩ :: ⟨[8], [], [9], [(.slot 12)]⟩ :: ⟨[9], [], [10], [(.slot 13)]⟩ :: ⟨[9], [], [11], [(.slot 14)]⟩ :: ⟨[9], [], [12], [(.slot 15)]⟩ :: ⟨[9], [], [13], [(.slot 16)]⟩ :: ⟨[9], [], [14], [(.slot 17)]⟩ :: ⟨[9], [], [15], [(.slot 18)]⟩ :: ⟨[9], [], [16], [(.slot 19)]⟩ :: ⟨[9], [], [17], [(.slot 20)]⟩ :: [])) (es' := [(_, _), (20, .v (.bool true))]) (by kernel_rfl) rfl rfl
        ⟨st_plain rfl (op_fieldAddr _ _ _ _ 1 0 _ Try.underlying24 rfl sz3 rfl rfl (by decide)),
          st_plain rfl (op_load _ _ _ _ _ _ Try.underlying3 rfl rfl rfl (Nat.le_of_ble_eq_true rfl) rfl rfl rfl),
          st_plain rfl (op_bin _ _ _ _ _ rfl rfl rfl),
          st_plain rfl (op_move _ _ _ _ (congrArg (fun b => AV.v (Value.bool b)) hg1_3) rfl),
          st_skip 3 7 _ false rfl rfl rfl rfl (List.Mem.head _),
          st_skip 3 7 _ false rfl rfl rfl rfl (List.Mem.head _),
          st_skip 3 7 _ false rfl rfl rfl rfl (List.Mem.head _),
          st_plain rfl (op_pick _ _ true _ rfl rfl),
          st_plain rfl (op_move _ _ _ _ rfl rfl),
          st_skip 8 12 _ false rfl rfl rfl rfl (List.Mem.head _),
          st_skip 8 12 _ false rfl rfl rfl rfl (List.Mem.head _),
          st_skip 8 12 _ false rfl rfl rfl rfl (List.Mem.head _),
          st_skip 8 12 _ false rfl rfl rfl rfl (List.Mem.head _),
          st_skip 8 12 _ false rfl rfl rfl rfl (List.Mem.head _),
          st_skip 8 12 _ false rfl rfl rfl rfl (List.Mem.head _),
          st_skip 8 12 _ false rfl rfl rfl rfl (List.Mem.head _),
          st_plain rfl (op_pick _ _ true _ rfl rfl),
          trivial⟩ ?_
      exact hl4 _ (Option.some.inj h).symm
    · refine cond_some h (fun hg1_8 h => ?_) (fun hg1_8 h => ?_)
      · refine ht_anyR (by kernel_rfl) hn (El := (_ :: (4, .ptr 1 1) :: (5, .v (.int .i64 s.N)) :: (6, .v (.bool ((decide (s.N < 0))))) :: (7, .v (.bool false)) :: (8, .ptr 1 1) :: (9, .v (.int .i64 s.N)) :: (10, .v (.bool ((decide (40000 < s.N))))) :: (11, .v (.bool ((decide (40000 < s.N))))) :: (12, .v (.bool true)) :: (13, .v undef) :: (14, .v undef) :: (15, .v undef) :: (16, .v undef) :: (17, .v undef) :: (18, .v undef) :: (19, .v undef) :: (20, .v (.bool true)) :: [])) (init := [0]) (fin := [0, 17]) (sps := (⟨[0], [], [1], [(.slot 4)]⟩ :: ⟨[1, 0], [], [2], [(.slot 5)]⟩ :: ⟨[2], [], [3], [(.slot 6)]⟩ :: ⟨[3], [], [4], [(.slot 7)]⟩ :: ⟨[4, 0], [], [5], [(.slot 8)]⟩ :: ⟨[4, 5, 0], [], [6], [(.slot 9)]⟩ :: ⟨[4, 6], [], [7], [(.slot 10)]⟩ :: ⟨[4, 7], [], [8], [(.slot 11)]⟩ :: ⟨[8], [], [9], [(.slot 12)]⟩ :: ⟨[9], [], [10], [(.slot 13)]⟩ :: ⟨[9], [], [11], [(.slot 14)]⟩ :: ⟨[9], [], [12], [(.slot 15)]⟩ :: ⟨[9], [], [13], [(.slot 16)]⟩ :: ⟨[9], [], [14], [(.slot 17)]⟩ :: ⟨[9], [], [15], [(.slot 18)]⟩ :: ⟨[9], [], [16], [(.slot 19)]⟩ :: ⟨[9], [], [17], [(.slot 20)]⟩ :: [])) (es' := [(_, _), (20, .v (.bool true))]) (by kernel_rfl) rfl rfl
          ⟨st_plain rfl (op_fieldAddr _ _ _ _ 1 0 _ Try.underlying24 rfl sz3 rfl rfl (by decide)),
            st_plain rfl (op_load _ _ _ _ _ _ Try.underlying3 rfl rfl rfl (Nat.le_of_ble_eq_true rfl) rfl rfl rfl),
            st_plain rfl (op_bin _ _ _ _ _ rfl rfl rfl),
            st_plain rfl (op_move _ _ _ _ (congrArg (fun b => AV.v (Value.bool b)) hg1_3) rfl),
            st_run 3 7 false rfl rfl rfl (List.Mem.head _) (op_fieldAddr _ _ _ _ 1 0 _ Try.underlying24 rfl sz3 rfl rfl (by decide)),
            st_run 3 7 false rfl rfl rfl (List.Mem.head _) (op_load _ _ _ _ _ _ Try.underlying3 rfl rfl rfl (Nat.le_of_ble_eq_true rfl) rfl rfl rfl),
            st_run 3 7 false rfl rfl rfl (List.Mem.head _) (op_bin _ _ _ _ _ rfl rfl rfl),
            st_plain rfl (op_pick _ _ false _ rfl rfl),
            st_plain rfl (op_move _ _ _ _ (congrArg (fun b => AV.v (Value.bool b)) hg1_8) rfl),
            st_skip 8 12 _ false rfl rfl rfl rfl (List.Mem.head _),
            st_skip 8 12 _ false rfl rfl rfl rfl (List.Mem.head _),
            st_skip 8 12 _ false rfl rfl rfl rfl (List.Mem.head _),
            st_skip 8 12 _ false rfl rfl rfl rfl (List.Mem.head _),
            st_skip 8 12 _ false rfl rfl rfl rfl (List.Mem.head _),
            st_skip 8 12 _ false rfl rfl rfl rfl (List.Mem.head _),
            st_skip 8 12 _ false rfl rfl rfl rfl (List.Mem.head _),
            st_plain rfl (op_pick _ _ true _ rfl rfl),
            trivial⟩ ?_
        exact hl4 _ (Option.some.inj h).symm
      · obtain ⟨v1, hv1, h⟩ := bind_some h
        refine ht_anyR (by kernel_rfl) hn (El := (_ :: (4, .ptr 1 1) :: (5, .v (.int .i64 s.N)) :: (6, .v (.bool ((decide (s.N < 0))))) :: (7, .v (.bool false)) :: (8, .ptr 1 1) :: (9, .v (.int .i64 s.N)) :: (10, .v (.bool ((decide (40000 < s.N))))) :: (11, .v (.bool ((decide (40000 < s.N))))) :: (12, .v (.bool false)) :: (13, .ptr 1 0) :: (14, .fl .shr 1 (List.map (Value.int .u8) s.B)) :: (15, .v (.int .i64 (s.B.length : Int))) :: (16, .ptr 1 1) :: (17, .v (.int .i64 s.N)) :: (18, .v (.int .i64 v1)) :: (19, .v (.bool (((s.B.length : Int) != v1)))) :: (20, .v (.bool (((s.B.length : Int) != v1)))) :: [])) (init := [0]) (fin := [0, 17]) (sps := (⟨[0], [], [1], [(.slot 4)]⟩ :: ⟨[1, 0], [], [2], [(.slot 5)]⟩ :: ⟨[2], [], [3], [(.slot 6)]⟩ :: ⟨[3], [], [4], [(.slot 7)]⟩ :: ⟨[4, 0], [], [5], [(.slot 8)]⟩ :: ⟨[4, 5, 0], [], [6], [(.slot 9)]⟩ :: ⟨[4, 6], [], [7], [(.slot 10)]⟩ :: ⟨[4, 7], [], [8], [(.slot 11)]⟩ :: ⟨[8], [], [9], [(.slot 12)]⟩ :: ⟨[9, 0], [], [10], [(.slot 13)]⟩ :: ⟨[9, 10, 0], [], [11], [(.slot 14)]⟩ :: ⟨[9, 11], [], [12], [(.slot 15)]⟩ :: ⟨[9, 0], [], [13], [(.slot 16)]⟩ :: ⟨[9, 13, 0], [], [14], [(.slot 17)]⟩ :: ⟨[9, 14], [], [15], [(.slot 18)]⟩ :: ⟨[9, 12, 15], [], [16], [(.slot 19)]⟩ :: ⟨[9, 16], [], [17], [(.slot 20)]⟩ :: [])) (es' := [(_, _), (20, .v (.bool (((s.B.length : Int) != v1))))]) (by kernel_rfl) rfl rfl
          ⟨st_plain rfl (op_fieldAddr _ _ _ _ 1 0 _ Try.underlying24 rfl sz3 rfl rfl (by decide)),
            st_plain rfl (op_load _ _ _ _ _ _ Try.underlying3 rfl rfl rfl (Nat.le_of_ble_eq_true rfl) rfl rfl rfl),
            st_plain rfl (op_bin _ _ _ _ _ rfl rfl rfl),
            st_plain rfl (op_move _ _ _ _ (congrArg (fun b => AV.v (Value.bool b)) hg1_3) rfl),
            st_run 3 7 false rfl rfl rfl (List.Mem.head _) (op_fieldAddr _ _ _ _ 1 0 _ Try.underlying24 rfl sz3 rfl rfl (by decide)),
            st_run 3 7 false rfl rfl rfl (List.Mem.head _) (op_load _ _ _ _ _ _ Try.underlying3 rfl rfl rfl (Nat.le_of_ble_eq_true rfl) rfl rfl rfl),
            st_run 3 7 false rfl rfl rfl (List.Mem.head _) (op_bin _ _ _ _ _ rfl rfl rfl),
            st_plain rfl (op_pick _ _ false _ rfl rfl),
            st_plain rfl (op_move _ _ _ _ (congrArg (fun b => AV.v (Value.bool b)) hg1_8) rfl),
            st_run 8 12 false rfl rfl rfl (List.Mem.head _) (op_fieldAddr _ _ _ _ 1 0 _ Try.underlying24 rfl sz22 rfl rfl (by decide)),
            st_run 8 12 false rfl rfl rfl (List.Mem.head _) (op_load _ _ _ _ _ _ Try.underlying22 rfl rfl rfl (Nat.le_of_ble_eq_true rfl) rfl rfl rfl),
            st_run 8 12 false rfl rfl rfl (List.Mem.head _) (op_len_fl _ _ _ Try.underlying22 rfl (by decide) (map_len _)),
            st_run 8 12 false rfl rfl rfl (List.Mem.head _) (op_fieldAddr _ _ _ _ 1 0 _ Try.underlying24 rfl sz3 rfl rfl (by decide)),
            st_run 8 12 false rfl rfl rfl (List.Mem.head _) (op_load _ _ _ _ _ _ Try.underlying3 rfl rfl rfl (Nat.le_of_ble_eq_true rfl) rfl rfl rfl),
            st_run 8 12 false rfl rfl rfl (List.Mem.head _) (op_call _ _ 28 _ _ rfl Try.call28 rfl (ok_bits_bytesFor s.N _ hv1) rfl rfl),
            st_run 8 12 false rfl rfl rfl (List.Mem.head _) (op_bin _ _ _ _ _ rfl rfl rfl),
            st_plain rfl (op_pick _ _ false _ rfl rfl),
            trivial⟩ ?_
        exact hl4 _ (Option.some.inj h).symm

set_option maxHeartbeats 1000000 in
theorem ok_bits_fits (v : Int) (n : Int) (r : Bool) (h : Sh.bits_fits v n = some r) : FnOK Try.prog 27 [.v (.int .i64 v), .v (.int .i64 n)] (.v (.bool r)) := by
  unfold Sh.bits_fits at h
  refine fn_ok Try.func27 rfl (Nat.le_of_ble_eq_true rfl) rfl rfl fun g0 hn hio => ?_
  refine ht_seq ?_
  refine ht_seqR hn (El := [_, _, (4, .v (.bool false))]) (init := [0, 1]) (fin := [0, 1]) (sps := [⟨[], [], [2], [(.slot 4)]⟩]) (es' := [(_, _), (_, _)]) (by kernel_rfl) rfl rfl
    ⟨st_plain rfl (op_assign _ _ _ _ rfl rfl),
      trivial⟩ ?_
  refine pt_then ?_
  refine ht_seq ?_
  refine ht_joinS h (fun (s2 : Bool) => [(4, .v (.bool s2))]) ?_ ?_
  · rintro s2 h
    refine pt_then ?_
    refine ht_ret ?_
    obtain rfl := Option.some.inj h
    exact pt_ret hio rfl (.tmp _ _ .nil) rfl rfl
  · intro u3 h hl4 hr5
    refine cond_some h (fun hg1_2 h => ?_) (fun hg1_2 h => ?_)
    · refine cond_some h (fun hg1_6 h => ?_) (fun hg1_6 h => ?_)
      · refine cond_some h (fun hg1_10 h => ?_) (fun hg1_10 h => ?_)
        · obtain ⟨v1, hv1, h⟩ := bind_some h
          refine ht_seqR hn (El := (_ :: _ :: (5, .v (.int .i64 n)) :: (6, .v (.bool ((decide (0 ≤ n))))) :: (7, .v (.bool true)) :: (8, .v (.int .i64 n)) :: (9, .v (.bool ((decide (n ≤ 24))))) :: (10, .v (.bool ((decide (n ≤ 24))))) :: (11, .v (.bool true)) :: (12, .v (.int .i64 v)) :: (13, .v (.bool ((decide (0 ≤ v))))) :: (14, .v (.bool ((decide (0 ≤ v))))) :: (15, .v (.bool true)) :: (16, .v (.int .i64 v)) :: (17, .v (.int .i64 n)) :: (18, .v (.int .i64 v1)) :: (19, .v (.bool ((decide (v < v1))))) :: (20, .v (.bool ((decide (v < v1))))) :: (4, .v (.bool ((decide (v < v1))))) :: [])) (init := [0, 1]) (fin := [18]) (sps := (⟨[1], [], [2], [(.slot 5)]⟩ :: ⟨[2], [], [3], [(.slot 6)]⟩ :: ⟨[3], [], [4], [(.slot 7)]⟩ :: ⟨[4, 1], [], [5], [(.slot 8)]⟩ :: ⟨[4, 5], [], [6], [(.slot 9)]⟩ :: ⟨[4, 6], [], [7], [(.slot 10)]⟩ :: ⟨[7], [], [8], [(.slot 11)]⟩ :: ⟨[8, 0], [], [9], [(.slot 12)]⟩ :: ⟨[8, 9], [], [10], [(.slot 13)]⟩ :: ⟨[8, 10], [], [11], [(.slot 14)]⟩ :: ⟨[11], [], [12], [(.slot 15)]⟩ :: ⟨[12, 0], [], [13], [(.slot 16)]⟩ :: ⟨[12, 1], [], [14], [(.slot 17)]⟩ :: ⟨[12, 14], [], [15], [(.slot 18)]⟩ :: ⟨[12, 13, 15], [], [16], [(.slot 19)]⟩ :: ⟨[12, 16], [], [17], [(.slot 20)]⟩ :: ⟨[17], [], [18], [(.slot 4)]⟩ :: [])) (es' := [(4, .v (.bool ((decide (v < v1)))))]) (by kernel_rfl) rfl rfl
            ⟨st_plain rfl (op_move _ _ _ _ rfl rfl),
              st_plain rfl (op_bin _ _ _ _ _ rfl rfl rfl),
              st_plain rfl (op_move _ _ _ _ (congrArg (fun b => AV.v (Value.bool b)) hg1_2) rfl),
              st_run 2 7 true rfl rfl rfl (List.Mem.head _) (op_move _ _ _ _ rfl rfl),
              st_run 2 7 true rfl rfl rfl (List.Mem.head _) (op_bin _ _ _ _ _ rfl rfl rfl),
              st_plain rfl (op_pick _ _ true _ rfl rfl),
              st_plain rfl (op_move _ _ _ _ (congrArg (fun b => AV.v (Value.bool b)) hg1_6) rfl),
              st_run 6 11 true rfl rfl rfl (List.Mem.head _) (op_move _ _ _ _ rfl rfl),
              st_run 6 11 true rfl rfl rfl (List.Mem.head _) (op_bin _ _ _ _ _ rfl rfl rfl),
              st_plain rfl (op_pick _ _ true _ rfl rfl),
              st_plain rfl (op_move _ _ _ _ (congrArg (fun b => AV.v (Value.bool b)) hg1_10) rfl),
              st_run 10 15 true rfl rfl rfl (List.Mem.head _) (op_move _ _ _ _ rfl rfl),
              st_run 10 15 true rfl rfl rfl (List.Mem.head _) (op_move _ _ _ _ rfl rfl),
              st_run 10 15 true rfl rfl rfl (List.Mem.head _) (op_bin _ _ _ _ _ rfl rfl (shl_ok hv1)),
              st_run 10 15 true rfl rfl rfl (List.Mem.head _) (op_bin _ _ _ _ _ rfl rfl rfl),
              st_plain rfl (op_pick _ _ true _ rfl rfl),
              st_plain rfl (op_assign _ _ _ _ rfl rfl),
              trivial⟩ ?_
          exact hl4 _ (Option.some.inj h).symm
        · refine ht_seqR hn (El := (_ :: _ :: (5, .v (.int .i64 n)) :: (6, .v (.bool ((decide (0 ≤ n))))) :: (7, .v (.bool true)) :: (8, .v (.int .i64 n)) :: (9, .v (.bool ((decide (n ≤ 24))))) :: (10, .v (.bool ((decide (n ≤ 24))))) :: (11, .v (.bool true)) :: (12, .v (.int .i64 v)) :: (13, .v (.bool ((decide (0 ≤ v))))) :: (14, .v (.bool ((decide (0 ≤ v))))) :: (15, .v (.bool false)) :: (16, .v undef) :: (17, .v undef) :: (18, .v undef) :: (19, .v undef) :: (20, .v (.bool false)) :: (4, .v (.bool false)) :: [])) (init := [0, 1]) (fin := [18]) (sps := (⟨[1], [], [2], [(.slot 5)]⟩ :: ⟨[2], [], [3], [(.slot 6)]⟩ :: ⟨[3], [], [4], [(.slot 7)]⟩ :: ⟨[4, 1], [], [5], [(.slot 8)]⟩ :: ⟨[4, 5], [], [6], [(.slot 9)]⟩ :: ⟨[4, 6], [], [7], [(.slot 10)]⟩ :: ⟨[7], [], [8], [(.slot 11)]⟩ :: ⟨[8, 0], [], [9], [(.slot 12)]⟩ :: ⟨[8, 9], [], [10], [(.slot 13)]⟩ :: ⟨[8, 10], [], [11], [(.slot 14)]⟩ :: ⟨[11], [], [12], [(.slot 15)]⟩ :: ⟨[12], [], [13], [(.slot 16)]⟩ :: ⟨[12], [], [14], [(.slot 17)]⟩ :: ⟨[12], [], [15], [(.slot 18)]⟩ :: ⟨[12], [], [16], [(.slot 19)]⟩ :: ⟨[12], [], [17], [(.slot 20)]⟩ :: ⟨[17], [], [18], [(.slot 4)]⟩ :: [])) (es' := [(4, .v (.bool false))]) (by kernel_rfl) rfl rfl
            ⟨st_plain rfl (op_move _ _ _ _ rfl rfl),
              st_plain rfl (op_bin _ _ _ _ _ rfl rfl rfl),
              st_plain rfl (op_move _ _ _ _ (congrArg (fun b => AV.v (Value.bool b)) hg1_2) rfl),
              st_run 2 7 true rfl rfl rfl (List.Mem.head _) (op_move _ _ _ _ rfl rfl),
              st_run 2 7 true rfl rfl rfl (List.Mem.head _) (op_bin _ _ _ _ _ rfl rfl rfl),
              st_plain rfl (op_pick _ _ true _ rfl rfl),
              st_plain rfl (op_move _ _ _ _ (congrArg (fun b => AV.v (Value.bool b)) hg1_6) rfl),
              st_run 6 11 true rfl rfl rfl (List.Mem.head _) (op_move _ _ _ _ rfl rfl),
              st_run 6 11 true rfl rfl rfl (List.Mem.head _) (op_bin _ _ _ _ _ rfl rfl rfl),
              st_plain rfl (op_pick _ _ true _ rfl rfl),
              st_plain rfl (op_move _ _ _ _ (congrArg (fun b => AV.v (Value.bool b)) hg1_10) rfl),
              st_skip 10 15 _ true rfl rfl rfl rfl (List.Mem.head _),
              st_skip 10 15 _ true rfl rfl rfl rfl (List.Mem.head _),
              st_skip 10 15 _ true rfl rfl rfl rfl (List.Mem.head _),
              st_skip 10 15 _ true rfl rfl rfl rfl (List.Mem.head _),
              st_plain rfl (op_pick _ _ false _ rfl rfl),
              st_plain rfl (op_assign _ _ _ _ rfl rfl),
              trivial⟩ ?_
          exact hl4 _ (Option.some.inj h).symm
      · refine ht_seqR hn (El := (_ :: _ :: (5, .v (.int .i64 n)) :: (6, .v (.bool ((decide (0 ≤ n))))) :: (7, .v (.bool true)) :: (8, .v (.int .i64 n)) :: (9, .v (.bool ((decide (n ≤ 24))))) :: (10, .v (.bool ((decide (n ≤ 24))))) :: (11, .v (.bool false)) :: (12, .v undef) :: (13, .v undef) :: (14, .v (.bool false)) :: (15, .v (.bool false)) :: (16, .v undef) :: (17, .v undef) :: (18, .v undef) :: (19, .v undef) :: (20, .v (.bool false)) :: (4, .v (.bool false)) :: [])) (init := [0, 1]) (fin := [18]) (sps := (⟨[1], [], [2], [(.slot 5)]⟩ :: ⟨[2], [], [3], [(.slot 6)]⟩ :: ⟨[3], [], [4], [(.slot 7)]⟩ :: ⟨[4, 1], [], [5], [(.slot 8)]⟩ :: ⟨[4, 5], [], [6], [(.slot 9)]⟩ :: ⟨[4, 6], [], [7], [(.slot 10)]⟩ :: ⟨[7], [], [8], [(.slot 11)]⟩ :: ⟨[8], [], [9], [(.slot 12)]⟩ :: ⟨[8], [], [10], [(.slot 13)]⟩ :: ⟨[8], [], [11], [(.slot 14)]⟩ :: ⟨[11], [], [12], [(.slot 15)]⟩ :: ⟨[12], [], [13], [(.slot 16)]⟩ :: ⟨[12], [], [14], [(.slot 17)]⟩ :: ⟨[12], [], [15], [(.slot 18)]⟩ :: ⟨[12], [], [16], [(.slot 19)]⟩ :: ⟨[12], [], [17], [(.slot 20)]⟩ :: ⟨[17], [], [18], [(.slot 4)]⟩ :: [])) (es' := [(4, .v (.bool false))]) (by kernel_rfl) rfl rfl
          ⟨st_plain rfl (op_move _ _ _ _ rfl rfl),
            st_plain rfl (op_bin _ _ _ _ _ rfl rfl rfl),
            st_plain rfl (op_move _ _ _ _ (congrArg (fun b => AV.v (Value.bool b)) hg1_2) rfl),
            st_run 2 7 true rfl rfl rfl (List.Mem.head _) (op_move _ _ _ _ rfl rfl),
            st_run 2 7 true rfl rfl rfl (List.Mem.head _) (op_bin _ _ _ _ _ rfl rfl rfl),
            st_plain rfl (op_pick _ _ true _ rfl rfl),
            st_plain rfl (op_move _ _ _ _ (congrArg (fun b => AV.v (Value.bool b)) hg1_6) rfl),
            st_skip 6 11 _ true rfl rfl rfl rfl (List.Mem.head _),
            st_skip 6 11 _ true rfl rfl rfl rfl (List.Mem.head _),
            st_plain rfl (op_pick _ _ false _ rfl rfl),
            st_plain rfl (op_move _ _ _ _ rfl rfl),
            st_skip 10 15 _ true rfl rfl rfl rfl (List.Mem.head _),
            st_skip 10 15 _ true rfl rfl rfl rfl (List.Mem.head _),
            st_skip 10 15 _ true rfl rfl rfl rfl (List.Mem.head _),
            st_skip 10 15 _ true rfl rfl rfl rfl (List.Mem.head _),
            st_plain rfl (op_pick _ _ false _ rfl rfl),
            st_plain rfl (op_assign _ _ _ _ rfl rfl),
            trivial⟩ ?_
        exact hl4 _ (Option.some.inj h).symm
    · refine ht_seqR hn (El := (_ :: _ :: (5, .v (.int .i64 n)) :: (6, .v (.bool ((decide (0 ≤ n))))) :: (7, .v (.bool false)) :: (8, .v undef) :: (9, .v undef) :: (10, .v (.bool false)) :: (11, .v (.bool false)) :: (12, .v undef) :: (13, .v undef) :: (14, .v (.bool false)) :: (15, .v (.bool false)) :: (16, .v undef) :: (17, .v undef) :: (18, .v undef) :: (19, .v undef) :: (20, .v (.bool false)) :: (4, .v (.bool false)) :: [])) (init := [0, 1]) (fin := [18]) (sps := (⟨[1], [], [2], [(.slot 5)]⟩ :: ⟨[2], [], [3], [(.slot 6)]⟩ :: ⟨[3], [], [4], [(.slot 7)]⟩ :: ⟨[4], [], [5], [(.slot 8)]⟩ :: ⟨[4], [], [6], [(.slot 9)]⟩ :: ⟨[4], [], [7], [(.slot 10)]⟩ :: ⟨[7], [], [8], [(.slot 11)]⟩ :: ⟨[8], [], [9], [(.slot 12)]⟩ :: ⟨[8], [], [10], [(.slot 13)]⟩ :: ⟨[8], [], [11], [(.slot 14)]⟩ :: ⟨[11], [], [12], [(.slot 15)]⟩ :: ⟨[12], [], [13], [(.slot 16)]⟩ :: ⟨[12], [], [14], [(.slot 17)]⟩ :: ⟨[12], [], [15], [(.slot 18)]⟩ :: ⟨[12], [], [16], [(.slot 19)]⟩ :: ⟨[12], [], [17], [(.slot 20)]⟩ :: ⟨[17], [], [18], [(.slot 4)]⟩ :: [])) (es' := [(4, .v (.bool false))]) (by kernel_rfl) rfl rfl
        ⟨st_plain rfl (op_move _ _ _ _ rfl rfl),
          st_plain rfl (op_bin _ _ _ _ _ rfl rfl rfl),
          st_plain rfl (op_move _ _ _ _ (congrArg (fun b => AV.v (Value.bool b)) hg1_2) rfl),
          st_skip 2 7 _ true rfl rfl rfl rfl (List.Mem.head _),
          st_skip 2 7 _ true rfl rfl rfl rfl (List.Mem.head _),
          st_plain rfl (op_pick _ _ false _ rfl rfl),
          st_plain rfl (op_move _ _ _ _ rfl rfl),
          st_skip 6 11 _ true rfl rfl rfl rfl (List.Mem.head _),
          st_skip 6 11 _ true rfl rfl rfl rfl (List.Mem.head _),
          st_plain rfl (op_pick _ _ false _ rfl rfl),
          st_plain rfl (op_move _ _ _ _ rfl rfl),
          st_skip 10 15 _ true rfl rfl rfl rfl (List.Mem.head _),
          st_skip 10 15 _ true rfl rfl rfl rfl (List.Mem.head _),
          st_skip 10 15 _ true rfl rfl rfl rfl (List.Mem.head _),
          st_skip 10 15 _ true rfl rfl rfl rfl (List.Mem.head _),
          st_plain rfl (op_pick _ _ false _ rfl rfl),
          st_plain rfl (op_assign _ _ _ _ rfl rfl),
          trivial⟩ ?_
      exact hl4 _ (Option.some.inj h).symm

set_option maxHeartbeats 1000000 in
theorem ok_bits_Put (s : T_Bits) (v : Int) (n : Int) (r : (T_Bits × Int)) (h : Sh.bits_Put s v n = some r) : FnOK Try.prog 12 [.agg [.fl .shr 1 (List.map (Value.int .u8) s.B), .v (.int .i64 s.N)], .v (.int .i64 v), .v (.int .i64 n)] (.tup [.agg [.fl (.own 5) 1 (List.map (Value.int .u8) r.1.B), .v (.int .i64 r.1.N)], .v (.int .i64 r.2)]) := by
  unfold Sh.bits_Put at h
  refine fn_ok Try.func12 rfl (Nat.le_of_ble_eq_true rfl) rfl rfl fun g0 hn hio => ?_
  refine ht_seq ?_
  refine ht_seqR hn (El := [_, _, _, (3, .box 24 [.fl .shr 1 (List.map (Value.int .u8) s.B), .v (.int .i64 s.N)]), (6, .box 24 [.v (.slice none 0 0), .v (.int .i64 0)]), (7, .v (.int .i64 0))]) (init := [0, 1, 2]) (fin := [1, 2, 3, 4]) (sps := [⟨[0], [], [3], [(.slot 3)]⟩, ⟨[], [], [4], [(.slot 6)]⟩, ⟨[], [], [5], [(.slot 7)]⟩]) (es' := [(_, _), (_, _), (3, .box 24 [.fl .shr 1 (List.map (Value.int .u8) s.B), .v (.int .i64 s.N)]), (6, .box 24 [.v (.slice none 0 0), .v (.int .i64 0)])]) (by kernel_rfl) rfl rfl
    ⟨st_plain rfl (op_box _ _ _ _ rfl rfl rfl),
      st_plain rfl (op_alloc _ _ zr24),
      st_plain rfl (op_assign _ _ _ _ rfl rfl),
      trivial⟩ ?_
  refine pt_then ?_
  refine ht_seq ?_
  refine ht_seq ?_
  obtain ⟨v1, hv1, h⟩ := bind_some h
  refine ht_seqR hn (El := [_, _, _, _, (12, .agg [.fl .shr 1 (List.map (Value.int .u8) s.B), .v (.int .i64 s.N)]), (13, .v (.int .i64 v1)), (8, .v (.int .i64 v1))]) (init := [0, 1, 2, 3]) (fin := [0, 1, 2, 3, 6]) (sps := [⟨[2], [], [4], [(.slot 12)]⟩, ⟨[4], [], [5], [(.slot 13)]⟩, ⟨[5], [], [6], [(.slot 8)]⟩]) (es' := [(_, _), (_, _), (_, _), (_, _), (8, .v (.int .i64 v1))]) (by kernel_rfl) rfl rfl
    ⟨st_plain rfl (op_loadA _ _ _ _ _ _ _ Try.underlying24 rfl sz24 rfl rfl (Nat.le_of_ble_eq_true rfl) rfl rfl),
      st_plain rfl (op_call _ _ 16 _ _ rfl Try.call16 rfl (ok_bits_Check s _ hv1) rfl rfl),
      st_plain rfl (op_assign _ _ _ _ rfl rfl),
      trivial⟩ ?_
  refine pt_then ?_
  refine ht_seq ?_
  refine ht_seqR hn (El := [_, _, _, _, _, (14, .v (.int .i64 v1)), (15, .v (.bool (v1 != 0)))]) (init := [0, 1, 2, 3, 4]) (fin := [0, 1, 2, 3, 4, 6]) (sps := [⟨[4], [], [5], [(.slot 14)]⟩, ⟨[5], [], [6], [(.slot 15)]⟩]) (es' := [(_, _), (_, _), (_, _), (_, _), (_, _), (15, .v (.bool (v1 != 0)))]) (by kernel_rfl) rfl rfl
    ⟨st_plain rfl (op_move _ _ _ _ rfl rfl),
      st_plain rfl (op_bin _ _ _ _ _ rfl rfl rfl),
      trivial⟩ ?_
  refine pt_then ?_
  refine ht_cond _ rfl (fun hb2 => ?_) (fun hb2 => ?_)
  · have h := cond_t hb2 h
    refine ht_seq ?_
    refine ht_seqR hn (El := [_, _, _, _, _, _, (16, .agg [.v (.slice none 0 0), .v (.int .i64 0)]), (17, .v (.int .i64 v1)), (6, .box 24 [.v (.slice none 0 0), .v (.int .i64 0)]), (7, .v (.int .i64 v1))]) (init := [0, 1, 2, 3, 4, 5]) (fin := [8, 9]) (sps := [⟨[], [], [6], [(.slot 16)]⟩, ⟨[4], [], [7], [(.slot 17)]⟩, ⟨[6], [3], [8], [.cell 6 0, .cell 6 1]⟩, ⟨[7], [], [9], [(.slot 7)]⟩]) (es' := [(6, .box 24 [.v (.slice none 0 0), .v (.int .i64 0)]), (7, .v (.int .i64 v1))]) (by kernel_rfl) rfl rfl
      ⟨st_plain rfl (op_build _ _ _ _ [1, 1] _ _ Try.underlying24 zr24 (fs24 _ Try.underlying24) Src.nil rfl rfl rfl),
        st_plain rfl (op_move _ _ _ _ rfl rfl),
        st_plain rfl (op_store _ _ _ _ _ _ _ _ sz24 rfl rfl rfl rfl (Nat.le_of_ble_eq_true rfl) rfl rfl),
        st_plain rfl (op_assign _ _ _ _ rfl rfl),
        trivial⟩ ?_
    refine pt_then ?_
    refine ht_ret ?_
    refine pt_sub (fs := [(6, .box 24 [.fl (.own 5) 1 (List.map (Value.int .u8) []), .v (.int .i64 0)]), (7, .v (.int .i64 v1))]) (.box _ _ (subs_cons (sub_nil 5 1) (subs_cons (sub_refl _) (subs_nil))) rfl (.same _ .nil)) ?_
    refine pt_r_then ?_
    obtain rfl := Option.some.inj h
    exact pt_ret hio rfl (.cellA _ _ _ _ Try.underlying24 rfl sz24 (.tmp _ _ .nil)) rfl rfl
  · have h := cond_f hb2 h
    refine ht_skip ?_
    refine pt_then ?_
    refine ht_seq ?_
    refine ht_seq ?_
    obtain ⟨v3, hv3, h⟩ := bind_some h
    refine ht_seqR hn (El := [_, _, _, _, _, _, (18, .v (.int .i64 v)), (19, .v (.int .i64 n)), (20, .v (.bool v3)), (21, .v (.bool (!v3)))]) (init := [0, 1, 2, 3, 4, 5]) (fin := [0, 1, 2, 3, 9]) (sps := [⟨[0], [], [6], [(.slot 18)]⟩, ⟨[1], [], [7], [(.slot 19)]⟩, ⟨[6, 7], [], [8], [(.slot 20)]⟩, ⟨[8], [], [9], [(.slot 21)]⟩]) (es' := [(_, _), (_, _), (_, _), (_, _), (21, .v (.bool (!v3)))]) (by kernel_rfl) rfl rfl
      ⟨st_plain rfl (op_move _ _ _ _ rfl rfl),
        st_plain rfl (op_move _ _ _ _ rfl rfl),
        st_plain rfl (op_call _ _ 27 _ _ rfl Try.call27 rfl (ok_bits_fits v n _ hv3) rfl rfl),
        st_plain rfl (op_un _ _ _ _ rfl rfl),
        trivial⟩ ?_
    refine pt_then ?_
    refine ht_cond _ rfl (fun hb4 => ?_) (fun hb4 => ?_)
    · have h := cond_t hb4 h
      refine ht_seq ?_
      refine ht_seqR hn (El := [_, _, _, _, _, (22, .agg [.v (.slice none 0 0), .v (.int .i64 0)]), (6, .box 24 [.v (.slice none 0 0), .v (.int .i64 0)]), (7, .v (.int .i64 1))]) (init := [0, 1, 2, 3, 4]) (fin := [6, 7]) (sps := [⟨[], [], [5], [(.slot 22)]⟩, ⟨[5], [3], [6], [.cell 6 0, .cell 6 1]⟩, ⟨[], [], [7], [(.slot 7)]⟩]) (es' := [(6, .box 24 [.v (.slice none 0 0), .v (.int .i64 0)]), (7, .v (.int .i64 1))]) (by kernel_rfl) rfl rfl
        ⟨st_plain rfl (op_build _ _ _ _ [1, 1] _ _ Try.underlying24 zr24 (fs24 _ Try.underlying24) Src.nil rfl rfl rfl),
          st_plain rfl (op_store _ _ _ _ _ _ _ _ sz24 rfl rfl rfl rfl (Nat.le_of_ble_eq_true rfl) rfl rfl),
          st_plain rfl (op_assign _ _ _ _ rfl rfl),
          trivial⟩ ?_
      refine pt_then ?_
      refine ht_ret ?_
      refine pt_sub (fs := [(6, .box 24 [.fl (.own 5) 1 (List.map (Value.int .u8) []), .v (.int .i64 0)]), (7, .v (.int .i64 1))]) (.box _ _ (subs_cons (sub_nil 5 1) (subs_cons (sub_refl _) (subs_nil))) rfl (.same _ .nil)) ?_
      refine pt_r_then ?_
      obtain rfl := Option.some.inj h
      exact pt_ret hio rfl (.cellA _ _ _ _ Try.underlying24 rfl sz24 (.tmp _ _ .nil)) rfl rfl
    · have h := cond_f hb4 h
      refine ht_skip ?_
      refine pt_then ?_
      refine ht_seq ?_
      refine ht_seq ?_
      obtain ⟨v5, hv5, h⟩ := bind_some h
      refine ht_seqR hn (El := [_, _, _, _, _, (23, .ptr 3 1), (24, .v (.int .i64 s.N)), (25, .v (.int .i64 n)), (26, .v (.int .i64 v5)), (27, .v (.bool ((decide (40000 < v5)))))]) (init := [0, 1, 2, 3, 4]) (fin := [0, 1, 2, 3, 9]) (sps := [⟨[2], [], [5], [(.slot 23)]⟩, ⟨[5, 2], [], [6], [(.slot 24)]⟩, ⟨[1], [], [7], [(.slot 25)]⟩, ⟨[6, 7], [], [8], [(.slot 26)]⟩, ⟨[8], [], [9], [(.slot 27)]⟩]) (es' := [(_, _), (_, _), (_, _), (_, _), (27, .v (.bool ((decide (40000 < v5)))))]) (by kernel_rfl) rfl rfl
        ⟨st_plain rfl (op_fieldAddr _ _ _ _ 3 0 _ Try.underlying24 rfl sz3 rfl rfl (by decide)),
          st_plain rfl (op_load _ _ _ _ _ _ Try.underlying3 rfl rfl rfl (Nat.le_of_ble_eq_true rfl) rfl rfl rfl),
          st_plain rfl (op_move _ _ _ _ rfl rfl),
          st_plain rfl (op_bin _ _ _ _ _ rfl rfl (ibind (f := Value.int .i64) (Option.some.inj hv5))),
          st_plain rfl (op_bin _ _ _ _ _ rfl rfl rfl),
          trivial⟩ ?_
      refine pt_then ?_
      refine ht_cond _ rfl (fun hb6 => ?_) (fun hb6 => ?_)
      · have h := cond_t hb6 h
        refine ht_seq ?_
        refine ht_seqR hn (El := [_, _, _, _, _, (28, .agg [.v (.slice none 0 0), .v (.int .i64 0)]), (6, .box 24 [.v (.slice none 0 0), .v (.int .i64 0)]), (7, .v (.int .i64 2))]) (init := [0, 1, 2, 3, 4]) (fin := [6, 7]) (sps := [⟨[], [], [5], [(.slot 28)]⟩, ⟨[5], [3], [6], [.cell 6 0, .cell 6 1]⟩, ⟨[], [], [7], [(.slot 7)]⟩]) (es' := [(6, .box 24 [.v (.slice none 0 0), .v (.int .i64 0)]), (7, .v (.int .i64 2))]) (by kernel_rfl) rfl rfl
          ⟨st_plain rfl (op_build _ _ _ _ [1, 1] _ _ Try.underlying24 zr24 (fs24 _ Try.underlying24) Src.nil rfl rfl rfl),
            st_plain rfl (op_store _ _ _ _ _ _ _ _ sz24 rfl rfl rfl rfl (Nat.le_of_ble_eq_true rfl) rfl rfl),
            st_plain rfl (op_assign _ _ _ _ rfl rfl),
            trivial⟩ ?_
        refine pt_then ?_
        refine ht_ret ?_
        refine pt_sub (fs := [(6, .box 24 [.fl (.own 5) 1 (List.map (Value.int .u8) []), .v (.int .i64 0)]), (7, .v (.int .i64 2))]) (.box _ _ (subs_cons (sub_nil 5 1) (subs_cons (sub_refl _) (subs_nil))) rfl (.same _ .nil)) ?_
        refine pt_r_then ?_
        obtain rfl := Option.some.inj h
        exact pt_ret hio rfl (.cellA _ _ _ _ Try.underlying24 rfl sz24 (.tmp _ _ .nil)) rfl rfl
      · have h := cond_f hb6 h
        refine ht_skip ?_
        refine pt_then ?_
        refine ht_seq ?_
        obtain ⟨v7, hv7, h⟩ := bind_some h
        obtain ⟨v8, hv8, h⟩ := bind_some h
        obtain ⟨v9, hv9, h⟩ := bind_some h
        refine ht_seqR hn (El := [_, _, _, _, _, (29, .ptr 3 1), (30, .v (.int .i64 s.N)), (31, .v (.int .i64 n)), (32, .v (.int .i64 v7)), (33, .v (.int .i64 v8)), (34, .fl (.own 5) 1 (List.map (Value.int .u8) v9)), (9, .fl (.own 5) 1 (List.map (Value.int .u8) v9))]) (init := [0, 1, 2, 3, 4]) (fin := [0, 1, 2, 3, 11]) (sps := [⟨[2], [], [5], [(.slot 29)]⟩, ⟨[5, 2], [], [6], [(.slot 30)]⟩, ⟨[1], [], [7], [(.slot 31)]⟩, ⟨[6, 7], [], [8], [(.slot 32)]⟩, ⟨[8], [], [9], [(.slot 33)]⟩, ⟨[9], [], [10], [(.slot 34)]⟩, ⟨[], [10], [11], [(.slot 9)]⟩]) (es' := [(_, _), (_, _), (_, _), (_, _), (9, .fl (.own 5) 1 (List.map (Value.int .u8) v9))]) (by kernel_rfl) rfl rfl
          ⟨st_plain rfl (op_fieldAddr _ _ _ _ 3 0 _ Try.underlying24 rfl sz3 rfl rfl (by decide)),
            st_plain rfl (op_load _ _ _ _ _ _ Try.underlying3 rfl rfl rfl (Nat.le_of_ble_eq_true rfl) rfl rfl rfl),
            st_plain rfl (op_move _ _ _ _ rfl rfl),
            st_plain rfl (op_bin _ _ _ _ _ rfl rfl (ibind (f := Value.int .i64) (Option.some.inj hv7))),
            st_plain rfl (op_call _ _ 28 _ _ rfl Try.call28 rfl (ok_bits_bytesFor v7 _ hv8) rfl rfl),
            st_plain rfl (op_mk (f := Value.int .u8) _ _ _ _ el22 (by decide) zr5 rfl rfl rfl hv9),
            st_plain rfl (op_assign_take _ _ _ _ rfl),
            trivial⟩ ?_
        refine pt_then ?_
        refine ht_seq ?_
        obtain ⟨v10, hv10, h⟩ := bind_some h
        refine ht_seqR hn (El := [_, _, _, _, _, (35, .same (.slot 9)), (36, .ptr 3 0), (37, .fl .shr 1 (List.map (Value.int .u8) s.B)), (38, .v (.int .i64 (copyN v9 s.B))), (9, .fl (.own 5) 1 (List.map (Value.int .u8) v10))]) (init := [0, 1, 2, 3, 4]) (fin := [0, 1, 2, 3, 9]) (sps := [⟨[4], [], [5], [(.slot 35)]⟩, ⟨[2], [], [6], [(.slot 36)]⟩, ⟨[6, 2], [], [7], [(.slot 37)]⟩, ⟨[5, 7], [4], [9, 8], [(.slot 38)]⟩]) (es' := [(_, _), (_, _), (_, _), (_, _), (9, .fl (.own 5) 1 (List.map (Value.int .u8) v10))]) (by kernel_rfl) rfl rfl
          ⟨st_plain rfl (op_move _ _ _ _ rfl rfl),
            st_plain rfl (op_fieldAddr _ _ _ _ 3 0 _ Try.underlying24 rfl sz22 rfl rfl (by decide)),
            st_plain rfl (op_load _ _ _ _ _ _ Try.underlying22 rfl rfl rfl (Nat.le_of_ble_eq_true rfl) rfl rfl rfl),
            st_plain rfl ((Option.some.inj hv10) ▸ op_cp _ _ _ _ _ _ _ Try.underlying22 sz5 rfl rfl (by decide)),
            trivial⟩ ?_
        refine pt_then ?_
        refine ht_seq ?_
        obtain ⟨v11, hv11, h⟩ := bind_some h
        obtain ⟨v12, hv12, h⟩ := bind_some h
        obtain ⟨v13, hv13, h⟩ := bind_some h
        refine ht_seqR hn (El := [_, _, _, _, _, (39, .v (.int .i64 v)), (40, .v (.int .u32 v11)), (41, .ptr 3 1), (42, .v (.int .i64 s.N)), (43, .v (.int .i64 v12)), (44, .v (.int .u32 v13)), (10, .v (.int .u32 v13))]) (init := [0, 1, 2, 3, 4]) (fin := [1, 2, 3, 4, 11]) (sps := [⟨[0], [], [5], [(.slot 39)]⟩, ⟨[5], [], [6], [(.slot 40)]⟩, ⟨[2], [], [7], [(.slot 41)]⟩, ⟨[7, 2], [], [8], [(.slot 42)]⟩, ⟨[8], [], [9], [(.slot 43)]⟩, ⟨[6, 9], [], [10], [(.slot 44)]⟩, ⟨[10], [], [11], [(.slot 10)]⟩]) (es' := [(_, _), (_, _), (_, _), (_, _), (10, .v (.int .u32 v13))]) (by kernel_rfl) rfl rfl
          ⟨st_plain rfl (op_move _ _ _ _ rfl rfl),
            st_plain rfl ((Option.some.inj hv11) ▸ op_conv _ _ _ Try.underlying3 Try.underlying52 rfl),
            st_plain rfl (op_fieldAddr _ _ _ _ 3 0 _ Try.underlying24 rfl sz3 rfl rfl (by decide)),
            st_plain rfl (op_load _ _ _ _ _ _ Try.underlying3 rfl rfl rfl (Nat.le_of_ble_eq_true rfl) rfl rfl rfl),
            st_plain rfl (op_bin _ _ _ _ _ rfl rfl (rem_ok hv12)),
            st_plain rfl (op_bin _ _ _ _ _ rfl rfl (shl_ok hv13)),
            st_plain rfl (op_assign _ _ _ _ rfl rfl),
            trivial⟩ ?_
        refine pt_then ?_
        refine ht_seq ?_
        refine ht_seq ?_
        obtain ⟨v14, hv14, h⟩ := bind_some h
        refine ht_seqR hn (El := [_, _, _, _, _, (45, .ptr 3 1), (46, .v (.int .i64 s.N)), (47, .v (.int .i64 v14)), (11, .v (.int .i64 v14))]) (init := [0, 1, 2, 3, 4]) (fin := [0, 1, 2, 3, 4, 8]) (sps := [⟨[1], [], [5], [(.slot 45)]⟩, ⟨[5, 1], [], [6], [(.slot 46)]⟩, ⟨[6], [], [7], [(.slot 47)]⟩, ⟨[7], [], [8], [(.slot 11)]⟩]) (es' := [(_, _), (_, _), (_, _), (_, _), (_, _), (11, .v (.int .i64 v14))]) (by kernel_rfl) rfl rfl
          ⟨st_plain rfl (op_fieldAddr _ _ _ _ 3 0 _ Try.underlying24 rfl sz3 rfl rfl (by decide)),
            st_plain rfl (op_load _ _ _ _ _ _ Try.underlying3 rfl rfl rfl (Nat.le_of_ble_eq_true rfl) rfl rfl rfl),
            st_plain rfl (op_bin _ _ _ _ _ rfl rfl (quo_ok hv14)),
            st_plain rfl (op_assign _ _ _ _ rfl rfl),
            trivial⟩ ?_
        refine pt_then ?_
        refine ht_loopS h (fun ((s28, s29, s30) : (List Int) × Int × Int) => [(2, .v (.int .i64 n)), (3, .box 24 [.fl .shr 1 (List.map (Value.int .u8) s.B), .v (.int .i64 s.N)]), (6, .box 24 [.v (.slice none 0 0), .v (.int .i64 0)]), (9, .fl (.own 5) 1 (List.map (Value.int .u8) s28)), (10, .v (.int .u32 s29)), (11, .v (.int .i64 s30))]) (fun (s32 : (List Int)) => [(2, .v (.int .i64 n)), (3, .box 24 [.fl .shr 1 (List.map (Value.int .u8) s.B), .v (.int .i64 s.N)]), (6, .box 24 [.v (.slice none 0 0), .v (.int .i64 0)]), (9, .fl (.own 5) 1 (List.map (Value.int .u8) s32))]) ?_ ?_
        · rintro s32 h
          refine pt_then ?_
          refine ht_seq ?_
          obtain ⟨v40, hv40, h⟩ := bind_some h
          refine ht_seqR hn (El := [_, _, _, _, (64, .fl (.own 5) 1 (List.map (Value.int .u8) s32)), (65, .ptr 3 1), (66, .v (.int .i64 s.N)), (67, .v (.int .i64 n)), (68, .v (.int .i64 v40)), (69, .agg [.fl (.own 5) 1 (List.map (Value.int .u8) s32), .v (.int .i64 v40)]), (6, .box 24 [.fl (.own 5) 1 (List.map (Value.int .u8) s32), .v (.int .i64 v40)]), (7, .v (.int .i64 0))]) (init := [0, 1, 2, 3]) (fin := [10, 11]) (sps := [⟨[], [3], [4], [(.slot 64)]⟩, ⟨[1], [], [5], [(.slot 65)]⟩, ⟨[5, 1], [], [6], [(.slot 66)]⟩, ⟨[0], [], [7], [(.slot 67)]⟩, ⟨[6, 7], [], [8], [(.slot 68)]⟩, ⟨[8], [4], [9], [(.slot 69)]⟩, ⟨[], [9, 2], [10], [.cell 6 0, .cell 6 1]⟩, ⟨[], [], [11], [(.slot 7)]⟩]) (es' := [(6, .box 24 [.fl (.own 5) 1 (List.map (Value.int .u8) s32), .v (.int .i64 v40)]), (7, .v (.int .i64 0))]) (by kernel_rfl) rfl rfl
            ⟨st_plain rfl (op_move_take _ _ _ _ rfl),
              st_plain rfl (op_fieldAddr _ _ _ _ 3 0 _ Try.underlying24 rfl sz3 rfl rfl (by decide)),
              st_plain rfl (op_load _ _ _ _ _ _ Try.underlying3 rfl rfl rfl (Nat.le_of_ble_eq_true rfl) rfl rfl rfl),
              st_plain rfl (op_move _ _ _ _ rfl rfl),
              st_plain rfl (op_bin _ _ _ _ _ rfl rfl (ibind (f := Value.int .i64) (Option.some.inj hv40))),
              st_plain rfl (op_build _ _ _ _ [1, 1] _ _ Try.underlying24 zr24 (fs24 _ Try.underlying24) (.take _ _ (.copy _ Src.nil)) rfl rfl rfl),
              st_plain rfl (op_store_take _ _ _ _ _ _ _ _ sz24 rfl rfl rfl (Nat.le_of_ble_eq_true rfl) rfl rfl),
              st_plain rfl (op_assign _ _ _ _ rfl rfl),
              trivial⟩ ?_
          refine pt_then ?_
          refine ht_ret ?_
          obtain rfl := Option.some.inj h
          exact pt_ret hio rfl (.cellA _ _ _ _ Try.underlying24 rfl sz24 (.tmp _ _ .nil)) rfl rfl
        · rintro u33 hl34 hr35 ⟨s28, s29, s30⟩ rr38 h ho36
          refine ht_seq ?_
          refine ht_seq ?_
          refine ht_seqR hn (El := [_, _, _, _, _, _, (48, .v (.int .i64 s30)), (49, .same (.slot 9)), (50, .v (.int .i64 (s28.length : Int))), (51, .v (.bool ((decide (s30 < (s28.length : Int))))))]) (init := [0, 1, 2, 3, 4, 5]) (fin := [0, 1, 2, 3, 4, 5, 9]) (sps := [⟨[5], [], [6], [(.slot 48)]⟩, ⟨[3], [], [7], [(.slot 49)]⟩, ⟨[7, 3], [], [8], [(.slot 50)]⟩, ⟨[6, 8], [], [9], [(.slot 51)]⟩]) (es' := [(_, _), (_, _), (_, _), (_, _), (_, _), (_, _), (51, .v (.bool ((decide (s30 < (s28.length : Int))))))]) (by kernel_rfl) rfl rfl
            ⟨st_plain rfl (op_move _ _ _ _ rfl rfl),
              st_plain rfl (op_move _ _ _ _ rfl rfl),
              st_plain rfl (op_len_fl _ _ _ Try.underlying22 rfl (by decide) (map_len _)),
              st_plain rfl (op_bin _ _ _ _ _ rfl rfl rfl),
              trivial⟩ ?_
          refine pt_then ?_
          refine ht_cond _ rfl (fun hb39 => ?_) (fun hb39 => ?_)
          · have h := cond_t hb39 h
            refine ht_skip ?_
            refine pt_then ?_
            refine ht_seq ?_
            refine ht_block ?_
            refine ht_seq ?_
            obtain ⟨v16, hv16, h⟩ := bind_some h
            obtain ⟨v17, hv17, h⟩ := bind_some h
            obtain ⟨v18, hv18, h⟩ := bind_some h
            obtain ⟨v19, hv19, h⟩ := bind_some h
            obtain ⟨v20, hv20, h⟩ := bind_some h
            obtain ⟨v21, hv21, h⟩ := bind_some h
            refine ht_seqR hn (El := (_ :: _ :: _ :: _ :: _ :: _ :: _ :: (54, .same (.slot 9)) :: (55, .v (.int .i64 s30)) :: (56, .eref (.slot 9) (v16 * 1)) :: (57, .v (.int .u8 v17)) :: (58, .v (.int .u32 s29)) :: (59, .v (.int .u8 v18)) :: (60, .v (.int .u8 v19)) :: (61, .eref (.slot 9) (v20 * 1)) :: (9, .fl (.own 5) 1 (List.map (Value.int .u8) v21)) :: [])) (init := [0, 1, 2, 3, 4, 5, 6]) (fin := [0, 1, 2, 15, 4, 5]) (sps := [⟨[3], [], [7], [(.slot 54)]⟩, ⟨[5], [], [8], [(.slot 55)]⟩, ⟨[7, 3, 8], [], [9], [(.slot 56)]⟩, ⟨[9, 3], [], [10], [(.slot 57)]⟩, ⟨[4], [], [11], [(.slot 58)]⟩, ⟨[11], [], [12], [(.slot 59)]⟩, ⟨[10, 12], [], [13], [(.slot 60)]⟩, ⟨[7, 3, 8], [], [14], [(.slot 61)]⟩, ⟨[14, 13], [3], [15], []⟩]) (es' := [(_, _), (_, _), (_, _), (9, .fl (.own 5) 1 (List.map (Value.int .u8) v21)), (_, _), (_, _)]) (by kernel_rfl) rfl rfl
              ⟨st_plain rfl (op_move _ _ _ _ rfl rfl),
                st_plain rfl (op_move _ _ _ _ rfl rfl),
                st_plain rfl (op_ix _ _ _ _ _ _ _ _ Try.underlying22 sz5 (by decide) rfl rfl rfl (ix_ok hv16).1 (map_lt (ix_ok hv16).2) rfl),
                st_plain rfl (op_load_e _ _ _ _ _ _ Try.underlying5 rfl rfl rfl (map_get hv17)),
                st_plain rfl (op_move _ _ _ _ rfl rfl),
                st_plain rfl ((Option.some.inj hv18) ▸ op_conv _ _ _ Try.underlying52 Try.underlying5 rfl),
                st_plain rfl (op_bin _ _ _ _ _ rfl rfl (ibind (f := Value.int .u8) (Option.some.inj hv19))),
                st_plain rfl (op_ix _ _ _ _ _ _ _ _ Try.underlying22 sz5 (by decide) rfl rfl rfl (ix_ok hv20).1 (map_lt (ix_ok hv20).2) rfl),
                st_plain rfl (op_store_e _ _ _ _ _ _ _ _ sz5 rfl rfl rfl (by decide) (map_lt (ix_ok hv20).2) ((map_set (f := Value.int .u8) _ (ix_ok hv20).2).trans (congrArg (List.map _) (Option.some.inj hv21)))),
                trivial⟩ ?_
            refine pt_then ?_
            obtain ⟨v22, hv22, h⟩ := bind_some h
            refine ht_seqR hn (El := [_, _, _, _, _, _, (62, .v (.int .u32 s29)), (63, .v (.int .u32 v22)), (10, .v (.int .u32 v22))]) (init := [0, 1, 2, 3, 4, 5]) (fin := [0, 1, 2, 3, 5, 8]) (sps := [⟨[4], [], [6], [(.slot 62)]⟩, ⟨[6], [], [7], [(.slot 63)]⟩, ⟨[7], [4], [8], [(.slot 10)]⟩]) (es' := [(_, _), (_, _), (_, _), (_, _), (_, _), (10, .v (.int .u32 v22))]) (by kernel_rfl) rfl rfl
              ⟨st_plain rfl (op_move _ _ _ _ rfl rfl),
                st_plain rfl (op_bin _ _ _ _ _ rfl rfl (shr_ok hv22)),
                st_plain rfl (LOp.drop [_] (op_assign _ _ _ _ rfl rfl)),
                trivial⟩ ?_
            refine pt_inb ?_
            refine pt_then ?_
            obtain ⟨v23, hv23, h⟩ := bind_some h
            refine ht_seqR hn (El := [_, _, _, _, _, _, (52, .v (.int .i64 s30)), (53, .v (.int .i64 v23)), (11, .v (.int .i64 v23))]) (init := [0, 1, 2, 3, 4, 5]) (fin := [0, 1, 2, 3, 5, 8]) (sps := [⟨[4], [], [6], [(.slot 52)]⟩, ⟨[6], [], [7], [(.slot 53)]⟩, ⟨[7], [4], [8], [(.slot 11)]⟩]) (es' := [(_, _), (_, _), (_, _), (_, _), (_, _), (11, .v (.int .i64 v23))]) (by kernel_rfl) rfl rfl
              ⟨st_plain rfl (op_move _ _ _ _ rfl rfl),
                st_plain rfl (op_bin _ _ _ _ _ rfl rfl (ibind (f := Value.int .i64) (Option.some.inj hv23))),
                st_plain rfl (LOp.drop [_] (op_assign _ _ _ _ rfl rfl)),
                trivial⟩ ?_
            exact pt_next _ (Option.some.inj h).symm rfl
          · have h := cond_f hb39 h
            refine ht_exit ?_
            refine pt_x_then ?_
            refine pt_x_then ?_
            refine pt_x_in ?_
            refine pt_pick [0, 1, 2, 3] (by kernel_rfl) (es' := [(_, _), (_, _), (_, _), (_, _)]) rfl ?_
            exact hl34 _ (ho36 _ (Option.some.inj h).symm).symm

set_option maxHeartbeats 1000000 in
theorem ok_wherryref01_fits (v : Int) (n : Int) (r : Bool) (h : Sh.wherryref01_fits v n = some r) : FnOK Try.prog 29 [.v (.int .i64 v), .v (.int .i64 n)] (.v (.bool r)) := by
  unfold Sh.wherryref01_fits at h
  refine fn_ok Try.func29 rfl (Nat.le_of_ble_eq_true rfl) rfl rfl fun g0 hn hio => ?_
  refine ht_seq ?_
  refine ht_seqR hn (El := [_, _, (4, .v (.bool false))]) (init := [0, 1]) (fin := [0, 1]) (sps := [⟨[], [], [2], [(.slot 4)]⟩]) (es' := [(_, _), (_, _)]) (by kernel_rfl) rfl rfl
    ⟨st_plain rfl (op_assign _ _ _ _ rfl rfl),
      trivial⟩ ?_
  refine pt_then ?_
  refine ht_seq ?_
  refine ht_joinS h (fun (s4 : Bool) => [(4, .v (.bool s4))]) ?_ ?_
  · rintro s4 h
    refine pt_then ?_
    refine ht_ret ?_
    obtain rfl := Option.some.inj h
    exact pt_ret hio rfl (.tmp _ _ .nil) rfl rfl
  · intro u5 h hl6 hr7
    obtain ⟨v1, hv1, h⟩ := bind_some h
    refine cond_some h (fun hg1_2 h => ?_) (fun hg1_2 h => ?_)
    · refine cond_some h (fun hg1_6 h => ?_) (fun hg1_6 h => ?_)
      · obtain ⟨v2, hv2, h⟩ := bind_some h
        obtain ⟨v3, hv3, h⟩ := bind_some h
        refine ht_seqR hn (El := (_ :: _ :: (5, .v (.int .i64 n)) :: (6, .v (.bool v1)) :: (7, .v (.bool true)) :: (8, .v (.int .i64 v)) :: (9, .v (.bool ((decide (0 ≤ v))))) :: (10, .v (.bool ((decide (0 ≤ v))))) :: (11, .v (.bool true)) :: (12, .v (.int .i64 v)) :: (13, .v (.int .i64 n)) :: (14, .v (.int .u64 v2)) :: (15, .v (.int .i64 v3)) :: (16, .v (.bool ((decide (v < v3))))) :: (17, .v (.bool ((decide (v < v3))))) :: (4, .v (.bool ((decide (v < v3))))) :: [])) (init := [0, 1]) (fin := [15]) (sps := [⟨[1], [], [2], [(.slot 5)]⟩, ⟨[2], [], [3], [(.slot 6)]⟩, ⟨[3], [], [4], [(.slot 7)]⟩, ⟨[4, 0], [], [5], [(.slot 8)]⟩, ⟨[4, 5], [], [6], [(.slot 9)]⟩, ⟨[4, 6], [], [7], [(.slot 10)]⟩, ⟨[7], [], [8], [(.slot 11)]⟩, ⟨[8, 0], [], [9], [(.slot 12)]⟩, ⟨[8, 1], [], [10], [(.slot 13)]⟩, ⟨[8, 10], [], [11], [(.slot 14)]⟩, ⟨[8, 11], [], [12], [(.slot 15)]⟩, ⟨[8, 9, 12], [], [13], [(.slot 16)]⟩, ⟨[8, 13], [], [14], [(.slot 17)]⟩, ⟨[14], [], [15], [(.slot 4)]⟩]) (es' := [(4, .v (.bool ((decide (v < v3)))))]) (by kernel_rfl) rfl rfl
          ⟨st_plain rfl (op_move _ _ _ _ rfl rfl),
            st_plain rfl (op_call _ _ 25 _ _ rfl Try.call25 rfl (ok_wherryref01_in n 0 24 _ hv1) rfl rfl),
            st_plain rfl (op_move _ _ _ _ (congrArg (fun b => AV.v (Value.bool b)) hg1_2) rfl),
            st_run 2 7 true rfl rfl rfl (List.Mem.head _) (op_move _ _ _ _ rfl rfl),
            st_run 2 7 true rfl rfl rfl (List.Mem.head _) (op_bin _ _ _ _ _ rfl rfl rfl),
            st_plain rfl (op_pick _ _ true _ rfl rfl),
            st_plain rfl (op_move _ _ _ _ (congrArg (fun b => AV.v (Value.bool b)) hg1_6) rfl),
            st_run 6 11 true rfl rfl rfl (List.Mem.head _) (op_move _ _ _ _ rfl rfl),
            st_run 6 11 true rfl rfl rfl (List.Mem.head _) (op_move _ _ _ _ rfl rfl),
            st_run 6 11 true rfl rfl rfl (List.Mem.head _) ((Option.some.inj hv2) ▸ op_conv _ _ _ Try.underlying3 Try.underlying43 rfl),
            st_run 6 11 true rfl rfl rfl (List.Mem.head _) (op_bin _ _ _ _ _ rfl rfl (shl_ok hv3)),
            st_run 6 11 true rfl rfl rfl (List.Mem.head _) (op_bin _ _ _ _ _ rfl rfl rfl),
            st_plain rfl (op_pick _ _ true _ rfl rfl),
            st_plain rfl (op_assign _ _ _ _ rfl rfl),
            trivial⟩ ?_
        exact hl6 _ (Option.some.inj h).symm
      · refine ht_seqR hn (El := (_ :: _ :: (5, .v (.int .i64 n)) :: (6, .v (.bool v1)) :: (7, .v (.bool true)) :: (8, .v (.int .i64 v)) :: (9, .v (.bool ((decide (0 ≤ v))))) :: (10, .v (.bool ((decide (0 ≤ v))))) :: (11, .v (.bool false)) :: (12, .v undef) :: (13, .v undef) :: (14, .v undef) :: (15, .v undef) :: (16, .v undef) :: (17, .v (.bool false)) :: (4, .v (.bool false)) :: [])) (init := [0, 1]) (fin := [15]) (sps := [⟨[1], [], [2], [(.slot 5)]⟩, ⟨[2], [], [3], [(.slot 6)]⟩, ⟨[3], [], [4], [(.slot 7)]⟩, ⟨[4, 0], [], [5], [(.slot 8)]⟩, ⟨[4, 5], [], [6], [(.slot 9)]⟩, ⟨[4, 6], [], [7], [(.slot 10)]⟩, ⟨[7], [], [8], [(.slot 11)]⟩, ⟨[8], [], [9], [(.slot 12)]⟩, ⟨[8], [], [10], [(.slot 13)]⟩, ⟨[8], [], [11], [(.slot 14)]⟩, ⟨[8], [], [12], [(.slot 15)]⟩, ⟨[8], [], [13], [(.slot 16)]⟩, ⟨[8], [], [14], [(.slot 17)]⟩, ⟨[14], [], [15], [(.slot 4)]⟩]) (es' := [(4, .v (.bool false))]) (by kernel_rfl) rfl rfl
          ⟨st_plain rfl (op_move _ _ _ _ rfl rfl),
            st_plain rfl (op_call _ _ 25 _ _ rfl Try.call25 rfl (ok_wherryref01_in n 0 24 _ hv1) rfl rfl),
            st_plain rfl (op_move _ _ _ _ (congrArg (fun b => AV.v (Value.bool b)) hg1_2) rfl),
            st_run 2 7 true rfl rfl rfl (List.Mem.head _) (op_move _ _ _ _ rfl rfl),
            st_run 2 7 true rfl rfl rfl (List.Mem.head _) (op_bin _ _ _ _ _ rfl rfl rfl),
            st_plain rfl (op_pick _ _ true _ rfl rfl),
            st_plain rfl (op_move _ _ _ _ (congrArg (fun b => AV.v (Value.bool b)) hg1_6) rfl),
            st_skip 6 11 _ true rfl rfl rfl rfl (List.Mem.head _),
            st_skip 6 11 _ true rfl rfl rfl rfl (List.Mem.head _),
            st_skip 6 11 _ true rfl rfl rfl rfl (List.Mem.head _),
            st_skip 6 11 _ true rfl rfl rfl rfl (List.Mem.head _),
            st_skip 6 11 _ true rfl rfl rfl rfl (List.Mem.head _),
            st_plain rfl (op_pick _ _ false _ rfl rfl),
            st_plain rfl (op_assign _ _ _ _ rfl rfl),
            trivial⟩ ?_
        exact hl6 _ (Option.some.inj h).symm
    · refine ht_seqR hn (El := (_ :: _ :: (5, .v (.int .i64 n)) :: (6, .v (.bool v1)) :: (7, .v (.bool false)) :: (8, .v undef) :: (9, .v undef) :: (10, .v (.bool false)) :: (11, .v (.bool false)) :: (12, .v undef) :: (13, .v undef) :: (14, .v undef) :: (15, .v undef) :: (16, .v undef) :: (17, .v (.bool false)) :: (4, .v (.bool false)) :: [])) (init := [0, 1]) (fin := [15]) (sps := [⟨[1], [], [2], [(.slot 5)]⟩, ⟨[2], [], [3], [(.slot 6)]⟩, ⟨[3], [], [4], [(.slot 7)]⟩, ⟨[4], [], [5], [(.slot 8)]⟩, ⟨[4], [], [6], [(.slot 9)]⟩, ⟨[4], [], [7], [(.slot 10)]⟩, ⟨[7], [], [8], [(.slot 11)]⟩, ⟨[8], [], [9], [(.slot 12)]⟩, ⟨[8], [], [10], [(.slot 13)]⟩, ⟨[8], [], [11], [(.slot 14)]⟩, ⟨[8], [], [12], [(.slot 15)]⟩, ⟨[8], [], [13], [(.slot 16)]⟩, ⟨[8], [], [14], [(.slot 17)]⟩, ⟨[14], [], [15], [(.slot 4)]⟩]) (es' := [(4, .v (.bool false))]) (by kernel_rfl) rfl rfl
        ⟨st_plain rfl (op_move _ _ _ _ rfl rfl),
          st_plain rfl (op_call _ _ 25 _ _ rfl Try.call25 rfl (ok_wherryref01_in n 0 24 _ hv1) rfl rfl),
          st_plain rfl (op_move _ _ _ _ (congrArg (fun b => AV.v (Value.bool b)) hg1_2) rfl),
          st_skip 2 7 _ true rfl rfl rfl rfl (List.Mem.head _),
          st_skip 2 7 _ true rfl rfl rfl rfl (List.Mem.head _),
          st_plain rfl (op_pick _ _ false _ rfl rfl),
          st_plain rfl (op_move _ _ _ _ rfl rfl),
          st_skip 6 11 _ true rfl rfl rfl rfl (List.Mem.head _),
          st_skip 6 11 _ true rfl rfl rfl rfl (List.Mem.head _),
          st_skip 6 11 _ true rfl rfl rfl rfl (List.Mem.head _),
          st_skip 6 11 _ true rfl rfl rfl rfl (List.Mem.head _),
          st_skip 6 11 _ true rfl rfl rfl rfl (List.Mem.head _),
          st_plain rfl (op_pick _ _ false _ rfl rfl),
          st_plain rfl (op_assign _ _ _ _ rfl rfl),
          trivial⟩ ?_
      exact hl6 _ (Option.some.inj h).symm

set_option maxHeartbeats 1000000 in
theorem ok_wherryref01_put (s : T_Bits) (v : Int) (n : Int) (r : T_Bits) (h : Sh.wherryref01_put s v n = some r) : FnP Try.prog 30 [.agg [.fl (.own 5) 1 (List.map (Value.int .u8) s.B), .v (.int .i64 s.N)], .v (.int .i64 v), .v (.int .i64 n)] [] (.agg [.fl (.own 5) 1 (List.map (Value.int .u8) r.B), .v (.int .i64 r.N)]) := by
  unfold Sh.wherryref01_put at h
  refine fn_okP Try.func30 rfl (Nat.le_of_ble_eq_true rfl) rfl (Nat.le_of_ble_eq_true rfl) fun args0 hargs0 g0 hn hio => ?_
  refine ht_seq ?_
  refine ht_seqR hn (El := [_, _, _, (3, .box 24 [.fl (.own 5) 1 (List.map (Value.int .u8) s.B), .v (.int .i64 s.N)]), (6, .box 24 [.v (.slice none 0 0), .v (.int .i64 0)])]) (init := [0, 1, 2]) (fin := [1, 2, 3, 4]) (sps := [⟨[], [0], [3], [(.slot 3)]⟩, ⟨[], [], [4], [(.slot 6)]⟩]) (es' := [(_, _), (_, _), (3, .box 24 [.fl (.own 5) 1 (List.map (Value.int .u8) s.B), .v (.int .i64 s.N)]), (6, .box 24 [.v (.slice none 0 0), .v (.int .i64 0)])]) (by kernel_rfl) rfl rfl
    ⟨st_plain rfl (op_box_take _ _ _ _ _ rfl rfl rfl),
      st_plain rfl (op_alloc _ _ zr24),
      trivial⟩ ?_
  refine pt_then ?_
  refine ht_seq ?_
  refine ht_seq ?_
  refine ht_seqR hn (El := [_, _, _, _, (7, .v (.int .i64 0))]) (init := [0, 1, 2, 3]) (fin := [0, 1, 2, 3, 4]) (sps := [⟨[], [], [4], [(.slot 7)]⟩]) (es' := [(_, _), (_, _), (_, _), (_, _), (7, .v (.int .i64 0))]) (by kernel_rfl) rfl rfl
    ⟨st_plain rfl (op_assign _ _ _ _ rfl rfl),
      trivial⟩ ?_
  refine pt_then ?_
  refine ht_loopS h (fun ((s36, s37, s38) : (List Int) × Int × Int) => [(1, .v (.int .i64 v)), (2, .v (.int .i64 n)), (3, .box 24 [.fl (.own 5) 1 (List.map (Value.int .u8) s36), .v (.int .i64 s37)]), (6, .box 24 [.v (.slice none 0 0), .v (.int .i64 0)]), (7, .v (.int .i64 s38))]) (fun ((s46, s47) : (List Int) × Int) => [(3, .box 24 [.fl (.own 5) 1 (List.map (Value.int .u8) s46), .v (.int .i64 s47)]), (6, .box 24 [.v (.slice none 0 0), .v (.int .i64 0)])]) ?_ ?_
  · rintro ⟨s46, s47⟩ h
    refine pt_then ?_
    refine ht_seq ?_
    refine ht_seqR hn (El := [_, _, (51, .agg [.fl (.own 5) 1 (List.map (Value.int .u8) s46), .v (.int .i64 s47)]), (6, .box 24 [.fl (.own 5) 1 (List.map (Value.int .u8) s46), .v (.int .i64 s47)])]) (init := [0, 1]) (fin := [3]) (sps := [⟨[], [0], [2], [(.slot 51)]⟩, ⟨[], [2, 1], [3], [.cell 6 0, .cell 6 1]⟩]) (es' := [(6, .box 24 [.fl (.own 5) 1 (List.map (Value.int .u8) s46), .v (.int .i64 s47)])]) (by kernel_rfl) rfl rfl
      ⟨st_plain rfl (op_loadA_take _ _ _ _ Try.underlying24 rfl sz24 rfl rfl),
        st_plain rfl (op_store_take _ _ _ _ _ _ _ _ sz24 rfl rfl rfl (Nat.le_of_ble_eq_true rfl) rfl rfl),
        trivial⟩ ?_
    refine pt_then ?_
    refine ht_ret ?_
    obtain rfl := Option.some.inj h
    exact pt_retP (es := [(6, .box 24 [.fl (.own 5) 1 (List.map (Value.int .u8) s46), .v (.int .i64 s47)])]) (posts := []) hio rfl rfl (.cellA _ _ _ _ Try.underlying24 rfl sz24 .nil) rfl rfl hargs0 rfl
  · rintro u48 hl49 hr50 ⟨s36, s37, s38⟩ rr53 h ho51
    refine ht_seq ?_
    refine ht_seq ?_
    refine ht_seqR hn (El := [_, _, _, _, _, (8, .v (.int .i64 s38)), (9, .v (.int .i64 n)), (10, .v (.bool ((decide (s38 < n)))))]) (init := [0, 1, 2, 3, 4]) (fin := [0, 1, 2, 3, 4, 7]) (sps := [⟨[4], [], [5], [(.slot 8)]⟩, ⟨[1], [], [6], [(.slot 9)]⟩, ⟨[5, 6], [], [7], [(.slot 10)]⟩]) (es' := [(_, _), (_, _), (_, _), (_, _), (_, _), (10, .v (.bool ((decide (s38 < n)))))]) (by kernel_rfl) rfl rfl
      ⟨st_plain rfl (op_move _ _ _ _ rfl rfl),
        st_plain rfl (op_move _ _ _ _ rfl rfl),
        st_plain rfl (op_bin _ _ _ _ _ rfl rfl rfl),
        trivial⟩ ?_
    refine pt_then ?_
    refine ht_cond _ rfl (fun hb54 => ?_) (fun hb54 => ?_)
    · have h := cond_t hb54 h
      refine ht_skip ?_
      refine pt_then ?_
      refine ht_seq ?_
      refine ht_block ?_
      refine ht_seq ?_
      refine ht_joinS h (fun (s56 : (List Int)) => [(1, .v (.int .i64 v)), (2, .v (.int .i64 n)), (3, .box 24 [.fl (.own 5) 1 (List.map (Value.int .u8) s56), .v (.int .i64 s37)]), (6, .box 24 [.v (.slice none 0 0), .v (.int .i64 0)]), (7, .v (.int .i64 s38))]) ?_ ?_
      · rintro s56 h
        refine pt_then ?_
        refine ht_seq ?_
        obtain ⟨v10, hv10, h⟩ := bind_some h
        obtain ⟨v11, hv11, h⟩ := bind_some h
        obtain ⟨v12, hv12, h⟩ := bind_some h
        obtain ⟨v13, hv13, h⟩ := bind_some h
        obtain ⟨v14, hv14, h⟩ := bind_some h
        obtain ⟨v15, hv15, h⟩ := bind_some h
        obtain ⟨v16, hv16, h⟩ := bind_some h
        obtain ⟨v17, hv17, h⟩ := bind_some h
        obtain ⟨v18, hv18, h⟩ := bind_some h
        obtain ⟨v19, hv19, h⟩ := bind_some h
        obtain ⟨v20, hv20, h⟩ := bind_some h
        obtain ⟨v21, hv21, h⟩ := bind_some h
        obtain ⟨v22, hv22, h⟩ := bind_some h
        obtain ⟨v23, hv23, h⟩ := bind_some h
        refine ht_anyR (by kernel_rfl) hn (El := (_ :: _ :: _ :: _ :: _ :: (22, .ptr 3 0) :: (23, .same (.cell 3 0)) :: (24, .ptr 3 1) :: (25, .v (.int .i64 s37)) :: (26, .v (.int .i64 v10)) :: (27, .ptr 3 0) :: (28, .same (.cell 3 0)) :: (29, .ptr 3 1) :: (30, .v (.int .i64 s37)) :: (31, .v (.int .i64 v11)) :: (32, .eref (.cell 3 0) (v12 * 1)) :: (33, .v (.int .u8 v13)) :: (34, .v (.int .i64 v)) :: (35, .v (.int .i64 s38)) :: (36, .v (.int .u64 v14)) :: (37, .v (.int .i64 v15)) :: (38, .v (.int .i64 v16)) :: (39, .v (.int .u8 v17)) :: (40, .ptr 3 1) :: (41, .v (.int .i64 s37)) :: (42, .v (.int .i64 v18)) :: (43, .v (.int .u64 v19)) :: (44, .v (.int .u8 v20)) :: (45, .v (.int .u8 v21)) :: (46, .eref (.cell 3 0) (v22 * 1)) :: (3, .box 24 [.fl (.own 5) 1 (List.map (Value.int .u8) v23), .v (.int .i64 s37)]) :: [])) (init := [0, 1, 2, 3, 4]) (fin := [0, 1, 30, 3, 4]) (sps := (⟨[2], [], [5], [(.slot 22)]⟩ :: ⟨[5, 2], [], [6], [(.slot 23)]⟩ :: ⟨[2], [], [7], [(.slot 24)]⟩ :: ⟨[7, 2], [], [8], [(.slot 25)]⟩ :: ⟨[8], [], [9], [(.slot 26)]⟩ :: ⟨[2], [], [10], [(.slot 27)]⟩ :: ⟨[10, 2], [], [11], [(.slot 28)]⟩ :: ⟨[2], [], [12], [(.slot 29)]⟩ :: ⟨[12, 2], [], [13], [(.slot 30)]⟩ :: ⟨[13], [], [14], [(.slot 31)]⟩ :: ⟨[11, 2, 14], [], [15], [(.slot 32)]⟩ :: ⟨[15, 2], [], [16], [(.slot 33)]⟩ :: ⟨[0], [], [17], [(.slot 34)]⟩ :: ⟨[4], [], [18], [(.slot 35)]⟩ :: ⟨[18], [], [19], [(.slot 36)]⟩ :: ⟨[17, 19], [], [20], [(.slot 37)]⟩ :: ⟨[20], [], [21], [(.slot 38)]⟩ :: ⟨[21], [], [22], [(.slot 39)]⟩ :: ⟨[2], [], [23], [(.slot 40)]⟩ :: ⟨[23, 2], [], [24], [(.slot 41)]⟩ :: ⟨[24], [], [25], [(.slot 42)]⟩ :: ⟨[25], [], [26], [(.slot 43)]⟩ :: ⟨[22, 26], [], [27], [(.slot 44)]⟩ :: ⟨[16, 27], [], [28], [(.slot 45)]⟩ :: ⟨[6, 2, 9], [], [29], [(.slot 46)]⟩ :: ⟨[29, 28], [2], [30], []⟩ :: [])) (es' := [(_, _), (_, _), (3, .box 24 [.fl (.own 5) 1 (List.map (Value.int .u8) v23), .v (.int .i64 s37)]), (_, _), (_, _)]) (by kernel_rfl) rfl rfl
          ⟨st_plain rfl (op_fieldAddr _ _ _ _ 3 0 _ Try.underlying24 rfl sz22 rfl rfl (by decide)),
            st_plain rfl (op_load _ _ _ _ _ _ Try.underlying22 rfl rfl rfl (Nat.le_of_ble_eq_true rfl) rfl rfl rfl),
            st_plain rfl (op_fieldAddr _ _ _ _ 3 0 _ Try.underlying24 rfl sz3 rfl rfl (by decide)),
            st_plain rfl (op_load _ _ _ _ _ _ Try.underlying3 rfl rfl rfl (Nat.le_of_ble_eq_true rfl) rfl rfl rfl),
            st_plain rfl (op_bin _ _ _ _ _ rfl rfl (quo_ok hv10)),
            st_plain rfl (op_fieldAddr _ _ _ _ 3 0 _ Try.underlying24 rfl sz22 rfl rfl (by decide)),
            st_plain rfl (op_load _ _ _ _ _ _ Try.underlying22 rfl rfl rfl (Nat.le_of_ble_eq_true rfl) rfl rfl rfl),
            st_plain rfl (op_fieldAddr _ _ _ _ 3 0 _ Try.underlying24 rfl sz3 rfl rfl (by decide)),
            st_plain rfl (op_load _ _ _ _ _ _ Try.underlying3 rfl rfl rfl (Nat.le_of_ble_eq_true rfl) rfl rfl rfl),
            st_plain rfl (op_bin _ _ _ _ _ rfl rfl (quo_ok hv11)),
            st_plain rfl (op_ix _ _ _ _ _ _ _ _ Try.underlying22 sz5 (by decide) rfl rfl rfl (ix_ok hv12).1 (map_lt (ix_ok hv12).2) rfl),
            st_plain rfl (op_load_e _ _ _ _ _ _ Try.underlying5 rfl rfl rfl (map_get hv13)),
            st_plain rfl (op_move _ _ _ _ rfl rfl),
            st_plain rfl (op_move _ _ _ _ rfl rfl),
            st_plain rfl ((Option.some.inj hv14) ▸ op_conv _ _ _ Try.underlying3 Try.underlying43 rfl),
            st_plain rfl (op_bin _ _ _ _ _ rfl rfl (shr_ok hv15)),
            st_plain rfl (op_bin _ _ _ _ _ rfl rfl (ibind (f := Value.int .i64) (Option.some.inj hv16))),
            st_plain rfl ((Option.some.inj hv17) ▸ op_conv _ _ _ Try.underlying3 Try.underlying5 rfl),
            st_plain rfl (op_fieldAddr _ _ _ _ 3 0 _ Try.underlying24 rfl sz3 rfl rfl (by decide)),
            st_plain rfl (op_load _ _ _ _ _ _ Try.underlying3 rfl rfl rfl (Nat.le_of_ble_eq_true rfl) rfl rfl rfl),
            st_plain rfl (op_bin _ _ _ _ _ rfl rfl (rem_ok hv18)),
            st_plain rfl ((Option.some.inj hv19) ▸ op_conv _ _ _ Try.underlying3 Try.underlying43 rfl),
            st_plain rfl (op_bin _ _ _ _ _ rfl rfl (shl_ok hv20)),
            st_plain rfl (op_bin _ _ _ _ _ rfl rfl (ibind (f := Value.int .u8) (Option.some.inj hv21))),
            st_plain rfl (op_ix _ _ _ _ _ _ _ _ Try.underlying22 sz5 (by decide) rfl rfl rfl (ix_ok hv22).1 (map_lt (ix_ok hv22).2) rfl),
            st_plain rfl (op_store_e_cell _ _ _ 3 0 _ _ _ _ sz5 rfl rfl (Nat.le_of_ble_eq_true rfl) rfl rfl (by decide) (map_lt (ix_ok hv22).2) ((map_set (f := Value.int .u8) _ (ix_ok hv22).2).trans (congrArg (List.map _) (Option.some.inj hv23))) rfl),
            trivial⟩ ?_
        refine pt_then ?_
        obtain ⟨v24, hv24, h⟩ := bind_some h
        refine ht_seqR hn (El := [_, _, _, _, _, (47, .ptr 3 1), (48, .v (.int .i64 s37)), (49, .v (.int .i64 v24)), (50, .ptr 3 1), (3, .box 24 [.fl (.own 5) 1 (List.map (Value.int .u8) v23), .v (.int .i64 v24)])]) (init := [0, 1, 2, 3, 4]) (fin := [0, 1, 9, 3, 4]) (sps := [⟨[2], [], [5], [(.slot 47)]⟩, ⟨[5, 2], [], [6], [(.slot 48)]⟩, ⟨[6], [], [7], [(.slot 49)]⟩, ⟨[2], [], [8], [(.slot 50)]⟩, ⟨[8, 7], [2], [9], [.cell 3 1]⟩]) (es' := [(_, _), (_, _), (3, .box 24 [.fl (.own 5) 1 (List.map (Value.int .u8) v23), .v (.int .i64 v24)]), (_, _), (_, _)]) (by kernel_rfl) rfl rfl
          ⟨st_plain rfl (op_fieldAddr _ _ _ _ 3 0 _ Try.underlying24 rfl sz3 rfl rfl (by decide)),
            st_plain rfl (op_load _ _ _ _ _ _ Try.underlying3 rfl rfl rfl (Nat.le_of_ble_eq_true rfl) rfl rfl rfl),
            st_plain rfl (op_bin _ _ _ _ _ rfl rfl (ibind (f := Value.int .i64) (Option.some.inj hv24))),
            st_plain rfl (op_fieldAddr _ _ _ _ 3 0 _ Try.underlying24 rfl sz3 rfl rfl (by decide)),
            st_plain rfl (op_store _ _ _ _ _ _ _ _ sz3 rfl rfl rfl rfl (Nat.le_of_ble_eq_true rfl) rfl rfl),
            trivial⟩ ?_
        refine pt_inb ?_
        refine pt_then ?_
        obtain ⟨v25, hv25, h⟩ := bind_some h
        refine ht_seqR hn (El := [_, _, _, _, _, (11, .v (.int .i64 s38)), (12, .v (.int .i64 v25)), (7, .v (.int .i64 v25))]) (init := [0, 1, 2, 3, 4]) (fin := [0, 1, 2, 3, 7]) (sps := [⟨[4], [], [5], [(.slot 11)]⟩, ⟨[5], [], [6], [(.slot 12)]⟩, ⟨[6], [4], [7], [(.slot 7)]⟩]) (es' := [(_, _), (_, _), (_, _), (_, _), (7, .v (.int .i64 v25))]) (by kernel_rfl) rfl rfl
          ⟨st_plain rfl (op_move _ _ _ _ rfl rfl),
            st_plain rfl (op_bin _ _ _ _ _ rfl rfl (ibind (f := Value.int .i64) (Option.some.inj hv25))),
            st_plain rfl (LOp.drop [_] (op_assign _ _ _ _ rfl rfl)),
            trivial⟩ ?_
        exact pt_next _ (Option.some.inj h).symm rfl
      · intro u57 h hl58 hr59
        refine ht_seq ?_
        obtain ⟨v2, hv2, h⟩ := bind_some h
        refine ht_seqR hn (El := [_, _, _, _, _, _, (13, .ptr 3 1), (14, .v (.int .i64 s37)), (15, .v (.int .i64 v2)), (16, .v (.bool (v2 == 0)))]) (init := [0, 1, 2, 3, 4, 5]) (fin := [0, 1, 2, 3, 4, 9]) (sps := [⟨[2], [], [6], [(.slot 13)]⟩, ⟨[6, 2], [], [7], [(.slot 14)]⟩, ⟨[7], [], [8], [(.slot 15)]⟩, ⟨[8], [], [9], [(.slot 16)]⟩]) (es' := [(_, _), (_, _), (_, _), (_, _), (_, _), (16, .v (.bool (v2 == 0)))]) (by kernel_rfl) rfl rfl
          ⟨st_plain rfl (op_fieldAddr _ _ _ _ 3 0 _ Try.underlying24 rfl sz3 rfl rfl (by decide)),
            st_plain rfl (op_load _ _ _ _ _ _ Try.underlying3 rfl rfl rfl (Nat.le_of_ble_eq_true rfl) rfl rfl rfl),
            st_plain rfl (op_bin _ _ _ _ _ rfl rfl (rem_ok hv2)),
            st_plain rfl (op_bin _ _ _ _ _ rfl rfl rfl),
            trivial⟩ ?_
        refine pt_then ?_
        refine ht_cond _ rfl (fun hb60 => ?_) (fun hb60 => ?_)
        · have h := cond_t hb60 h
          obtain ⟨v4, hv4, h⟩ := bind_some h
          refine ht_seqR hn (El := [_, _, _, _, _, _, (17, .ptr 3 0), (18, .same (.cell 3 0)), (19, .fl (.own 5) 1 (List.map (Value.int .u8) [0])), (20, .fl (.own 5) 1 (List.map (Value.int .u8) v4)), (3, .box 24 [.any, .v (.int .i64 s37)]), (21, .ptr 3 0), (3, .box 24 [.fl (.own 5) 1 (List.map (Value.int .u8) v4), .v (.int .i64 s37)])]) (init := [0, 1, 2, 3, 4, 5]) (fin := [0, 1, 12, 3, 4]) (sps := [⟨[2], [], [6], [(.slot 17)]⟩, ⟨[6, 2], [], [7], [(.slot 18)]⟩, ⟨[], [], [8], [(.slot 19)]⟩, ⟨[7, 8], [2], [10, 9], [(.slot 20)]⟩, ⟨[10], [], [11], [(.slot 21)]⟩, ⟨[11], [7, 9, 10], [12], [.cell 3 0]⟩]) (es' := [(_, _), (_, _), (3, .box 24 [.fl (.own 5) 1 (List.map (Value.int .u8) v4), .v (.int .i64 s37)]), (_, _), (_, _)]) (by kernel_rfl) rfl rfl
            ⟨st_plain rfl (op_fieldAddr _ _ _ _ 3 0 _ Try.underlying24 rfl sz22 rfl rfl (by decide)),
              st_plain rfl (op_load _ _ _ _ _ _ Try.underlying22 rfl rfl rfl (Nat.le_of_ble_eq_true rfl) rfl rfl rfl),
              st_plain rfl (op_buildSlice _ _ 1 (.int .u8 0) (List.map (Value.int .u8) [0]) [(0, .int .u8 0)] Try.underlying22 sz5 zr5 (fun _ V w o a hv hes => by simp only [List.map_toArray, List.map_cons, List.map_nil]; try rfl) (litfill (by simp [Instr.fill, Value.cells]; rfl) (by simp [List.range, List.range.loop])) (by simp [Value.oneCell']) rfl (by decide) (by decide) (by decide)),
              st_plain rfl (op_app_cell _ _ _ _ _ _ el22 rfl rfl (Nat.le_of_ble_eq_true rfl) rfl (map_len _) (map_len _) hv4 ((List.map_append).symm.trans (congrArg (List.map _) (app_eq hv4))) (by decide) rfl rfl),
              st_plain rfl (op_fieldAddr _ _ _ _ 3 0 _ Try.underlying24 rfl sz22 rfl rfl (by decide)),
              st_plain rfl (LOp.drop [_] (op_store_take _ _ _ _ _ _ _ _ sz22 rfl rfl rfl (Nat.le_of_ble_eq_true rfl) rfl rfl)),
              trivial⟩ ?_
          exact hl58 _ (Option.some.inj h).symm
        · have h := cond_f hb60 h
          refine ht_skip ?_
          refine pt_pick [0, 1, 2, 3, 4] (by kernel_rfl) (es' := [(_, _), (_, _), (_, _), (_, _), (_, _)]) rfl ?_
          exact hl58 _ (Option.some.inj h).symm
    · have h := cond_f hb54 h
      refine ht_exit ?_
      refine pt_x_then ?_
      refine pt_x_then ?_
      refine pt_x_in ?_
      refine pt_pick [2, 3] (by kernel_rfl) (es' := [(_, _), (_, _)]) rfl ?_
      exact hl49 _ (ho51 _ (Option.some.inj h).symm).symm

set_option maxHeartbeats 1000000 in
theorem ok_wherryref01_Put (s : T_Bits) (v : Int) (n : Int) (r : (T_Bits × Int)) (h : Sh.wherryref01_Put s v n = some r) : FnOK Try.prog 13 [.agg [.fl .shr 1 (List.map (Value.int .u8) s.B), .v (.int .i64 s.N)], .v (.int .i64 v), .v (.int .i64 n)] (.tup [.agg [.fl (.own 5) 1 (List.map (Value.int .u8) r.1.B), .v (.int .i64 r.1.N)], .v (.int .i64 r.2)]) := by
  unfold Sh.wherryref01_Put at h
  refine fn_ok Try.func13 rfl (Nat.le_of_ble_eq_true rfl) rfl rfl fun g0 hn hio => ?_
  refine ht_seq ?_
  refine ht_seqR hn (El := [_, _, _, (3, .box 24 [.fl .shr 1 (List.map (Value.int .u8) s.B), .v (.int .i64 s.N)]), (6, .box 24 [.v (.slice none 0 0), .v (.int .i64 0)]), (7, .v (.int .i64 0))]) (init := [0, 1, 2]) (fin := [1, 2, 3, 4]) (sps := [⟨[0], [], [3], [(.slot 3)]⟩, ⟨[], [], [4], [(.slot 6)]⟩, ⟨[], [], [5], [(.slot 7)]⟩]) (es' := [(_, _), (_, _), (3, .box 24 [.fl .shr 1 (List.map (Value.int .u8) s.B), .v (.int .i64 s.N)]), (6, .box 24 [.v (.slice none 0 0), .v (.int .i64 0)])]) (by kernel_rfl) rfl rfl
    ⟨st_plain rfl (op_box _ _ _ _ rfl rfl rfl),
      st_plain rfl (op_alloc _ _ zr24),
      st_plain rfl (op_assign _ _ _ _ rfl rfl),
      trivial⟩ ?_
  refine pt_then ?_
  refine ht_seq ?_
  refine ht_seq ?_
  refine ht_joinS h (fun (s3 : Bool) => [(1, .v (.int .i64 v)), (2, .v (.int .i64 n)), (3, .box 24 [.fl .shr 1 (List.map (Value.int .u8) s.B), .v (.int .i64 s.N)]), (6, .box 24 [.v (.slice none 0 0), .v (.int .i64 0)]), (16, .v (.bool s3))]) ?_ ?_
  · rintro s3 h
    refine pt_then ?_
    refine ht_cond _ rfl (fun hb7 => ?_) (fun hb7 => ?_)
    · have h := cond_t hb7 h
      refine ht_seq ?_
      refine ht_seqR hn (El := [_, _, _, _, _, (17, .agg [.v (.slice none 0 0), .v (.int .i64 0)]), (6, .box 24 [.v (.slice none 0 0), .v (.int .i64 0)]), (7, .v (.int .i64 1))]) (init := [0, 1, 2, 3, 4]) (fin := [6, 7]) (sps := [⟨[], [], [5], [(.slot 17)]⟩, ⟨[5], [3], [6], [.cell 6 0, .cell 6 1]⟩, ⟨[], [], [7], [(.slot 7)]⟩]) (es' := [(6, .box 24 [.v (.slice none 0 0), .v (.int .i64 0)]), (7, .v (.int .i64 1))]) (by kernel_rfl) rfl rfl
        ⟨st_plain rfl (op_build _ _ _ _ [1, 1] _ _ Try.underlying24 zr24 (fs24 _ Try.underlying24) Src.nil rfl rfl rfl),
          st_plain rfl (op_store _ _ _ _ _ _ _ _ sz24 rfl rfl rfl rfl (Nat.le_of_ble_eq_true rfl) rfl rfl),
          st_plain rfl (op_assign _ _ _ _ rfl rfl),
          trivial⟩ ?_
      refine pt_then ?_
      refine ht_ret ?_
      refine pt_sub (fs := [(6, .box 24 [.fl (.own 5) 1 (List.map (Value.int .u8) []), .v (.int .i64 0)]), (7, .v (.int .i64 1))]) (.box _ _ (subs_cons (sub_nil 5 1) (subs_cons (sub_refl _) (subs_nil))) rfl (.same _ .nil)) ?_
      refine pt_r_then ?_
      obtain rfl := Option.some.inj h
      exact pt_ret hio rfl (.cellA _ _ _ _ Try.underlying24 rfl sz24 (.tmp _ _ .nil)) rfl rfl
    · have h := cond_f hb7 h
      refine ht_skip ?_
      refine pt_then ?_
      refine ht_seq ?_
      refine ht_seq ?_
      obtain ⟨v8, hv8, h⟩ := bind_some h
      refine ht_seqR hn (El := [_, _, _, _, _, (18, .ptr 3 1), (19, .v (.int .i64 s.N)), (20, .v (.int .i64 n)), (21, .v (.int .i64 v8)), (22, .v (.bool ((decide (40000 < v8)))))]) (init := [0, 1, 2, 3, 4]) (fin := [0, 1, 2, 3, 9]) (sps := [⟨[2], [], [5], [(.slot 18)]⟩, ⟨[5, 2], [], [6], [(.slot 19)]⟩, ⟨[1], [], [7], [(.slot 20)]⟩, ⟨[6, 7], [], [8], [(.slot 21)]⟩, ⟨[8], [], [9], [(.slot 22)]⟩]) (es' := [(_, _), (_, _), (_, _), (_, _), (22, .v (.bool ((decide (40000 < v8)))))]) (by kernel_rfl) rfl rfl
        ⟨st_plain rfl (op_fieldAddr _ _ _ _ 3 0 _ Try.underlying24 rfl sz3 rfl rfl (by decide)),
          st_plain rfl (op_load _ _ _ _ _ _ Try.underlying3 rfl rfl rfl (Nat.le_of_ble_eq_true rfl) rfl rfl rfl),
          st_plain rfl (op_move _ _ _ _ rfl rfl),
          st_plain rfl (op_bin _ _ _ _ _ rfl rfl (ibind (f := Value.int .i64) (Option.some.inj hv8))),
          st_plain rfl (op_bin _ _ _ _ _ rfl rfl rfl),
          trivial⟩ ?_
      refine pt_then ?_
      refine ht_cond _ rfl (fun hb9 => ?_) (fun hb9 => ?_)
      · have h := cond_t hb9 h
        refine ht_seq ?_
        refine ht_seqR hn (El := [_, _, _, _, _, (23, .agg [.v (.slice none 0 0), .v (.int .i64 0)]), (6, .box 24 [.v (.slice none 0 0), .v (.int .i64 0)]), (7, .v (.int .i64 2))]) (init := [0, 1, 2, 3, 4]) (fin := [6, 7]) (sps := [⟨[], [], [5], [(.slot 23)]⟩, ⟨[5], [3], [6], [.cell 6 0, .cell 6 1]⟩, ⟨[], [], [7], [(.slot 7)]⟩]) (es' := [(6, .box 24 [.v (.slice none 0 0), .v (.int .i64 0)]), (7, .v (.int .i64 2))]) (by kernel_rfl) rfl rfl
          ⟨st_plain rfl (op_build _ _ _ _ [1, 1] _ _ Try.underlying24 zr24 (fs24 _ Try.underlying24) Src.nil rfl rfl rfl),
            st_plain rfl (op_store _ _ _ _ _ _ _ _ sz24 rfl rfl rfl rfl (Nat.le_of_ble_eq_true rfl) rfl rfl),
            st_plain rfl (op_assign _ _ _ _ rfl rfl),
            trivial⟩ ?_
        refine pt_then ?_
        refine ht_ret ?_
        refine pt_sub (fs := [(6, .box 24 [.fl (.own 5) 1 (List.map (Value.int .u8) []), .v (.int .i64 0)]), (7, .v (.int .i64 2))]) (.box _ _ (subs_cons (sub_nil 5 1) (subs_cons (sub_refl _) (subs_nil))) rfl (.same _ .nil)) ?_
        refine pt_r_then ?_
        obtain rfl := Option.some.inj h
        exact pt_ret hio rfl (.cellA _ _ _ _ Try.underlying24 rfl sz24 (.tmp _ _ .nil)) rfl rfl
      · have h := cond_f hb9 h
        refine ht_skip ?_
        refine pt_then ?_
        refine ht_seq ?_
        obtain ⟨v10, hv10, h⟩ := bind_some h
        obtain ⟨v11, hv11, h⟩ := bind_some h
        refine ht_anyR (by kernel_rfl) hn (El := (_ :: _ :: _ :: _ :: _ :: (24, .ptr 3 0) :: (25, .fl .shr 1 (List.map (Value.int .u8) s.B)) :: (26, .fl (.own 5) 1 (List.map (Value.int .u8) v10)) :: (27, .ptr 3 1) :: (28, .v (.int .i64 s.N)) :: (29, .agg [.fl (.own 5) 1 (List.map (Value.int .u8) v10), .v (.int .i64 s.N)]) :: (30, .v (.int .i64 v)) :: (31, .v (.int .i64 n)) :: (32, .agg [.fl (.own 5) 1 (List.map (Value.int .u8) v11.B), .v (.int .i64 v11.N)]) :: (6, .box 24 [.fl (.own 5) 1 (List.map (Value.int .u8) v11.B), .v (.int .i64 v11.N)]) :: (7, .v (.int .i64 0)) :: [])) (init := [0, 1, 2, 3, 4]) (fin := [14, 15]) (sps := [⟨[2], [], [5], [(.slot 24)]⟩, ⟨[5, 2], [], [6], [(.slot 25)]⟩, ⟨[6], [], [7], [(.slot 26)]⟩, ⟨[2], [], [8], [(.slot 27)]⟩, ⟨[8, 2], [], [9], [(.slot 28)]⟩, ⟨[9], [7], [10], [(.slot 29)]⟩, ⟨[0], [], [11], [(.slot 30)]⟩, ⟨[1], [], [12], [(.slot 31)]⟩, ⟨[11, 12], [10], [13], [(.slot 32)]⟩, ⟨[], [13, 3], [14], [.cell 6 0, .cell 6 1]⟩, ⟨[], [], [15], [(.slot 7)]⟩]) (es' := [(6, .box 24 [.fl (.own 5) 1 (List.map (Value.int .u8) v11.B), .v (.int .i64 v11.N)]), (7, .v (.int .i64 0))]) (by kernel_rfl) rfl rfl
          ⟨st_plain rfl (op_fieldAddr _ _ _ _ 3 0 _ Try.underlying24 rfl sz22 rfl rfl (by decide)),
            st_plain rfl (op_load _ _ _ _ _ _ Try.underlying22 rfl rfl rfl (Nat.le_of_ble_eq_true rfl) rfl rfl rfl),
            st_plain rfl (op_call _ _ 10 _ _ rfl Try.call10 rfl (ok_wherrykeep_Twin s.B _ hv10) rfl rfl),
            st_plain rfl (op_fieldAddr _ _ _ _ 3 0 _ Try.underlying24 rfl sz3 rfl rfl (by decide)),
            st_plain rfl (op_load _ _ _ _ _ _ Try.underlying3 rfl rfl rfl (Nat.le_of_ble_eq_true rfl) rfl rfl rfl),
            st_plain rfl (op_build _ _ _ _ [1, 1] _ _ Try.underlying24 zr24 (fs24 _ Try.underlying24) (.take _ _ (.copy _ Src.nil)) rfl rfl rfl),
            st_plain rfl (op_move _ _ _ _ rfl rfl),
            st_plain rfl (op_move _ _ _ _ rfl rfl),
            st_plain rfl (op_callP _ _ _ _ 32 30 [.tmp 29] [.tmp 30, .tmp 31] _ _ _ rfl Try.call30 rfl rfl rfl (ok_wherryref01_put (T_Bits.mk v10 s.N) v n _ hv11) (Nat.le_of_ble_eq_true rfl) rfl rfl rfl rfl rfl rfl rfl rfl),
            st_plain rfl (op_store_take _ _ _ _ _ _ _ _ sz24 rfl rfl rfl (Nat.le_of_ble_eq_true rfl) rfl rfl),
            st_plain rfl (op_assign _ _ _ _ rfl rfl),
            trivial⟩ ?_
        refine pt_then ?_
        refine ht_ret ?_
        obtain rfl := Option.some.inj h
        exact pt_ret hio rfl (.cellA _ _ _ _ Try.underlying24 rfl sz24 (.tmp _ _ .nil)) rfl rfl
  · intro u4 h hl5 hr6
    obtain ⟨v1, hv1, h⟩ := bind_some h
    refine cond_some h (fun hg1_3 h => ?_) (fun hg1_3 h => ?_)
    · refine ht_seqR hn (El := [_, _, _, _, (8, .agg [.fl .shr 1 (List.map (Value.int .u8) s.B), .v (.int .i64 s.N)]), (9, .v (.bool v1)), (10, .v (.bool (!v1))), (11, .v (.bool true)), (12, .v undef), (13, .v undef), (14, .v undef), (15, .v undef), (16, .v (.bool true))]) (init := [0, 1, 2, 3]) (fin := [0, 1, 2, 3, 12]) (sps := [⟨[2], [], [4], [(.slot 8)]⟩, ⟨[4], [], [5], [(.slot 9)]⟩, ⟨[5], [], [6], [(.slot 10)]⟩, ⟨[6], [], [7], [(.slot 11)]⟩, ⟨[7], [], [8], [(.slot 12)]⟩, ⟨[7], [], [9], [(.slot 13)]⟩, ⟨[7], [], [10], [(.slot 14)]⟩, ⟨[7], [], [11], [(.slot 15)]⟩, ⟨[7], [], [12], [(.slot 16)]⟩]) (es' := [(_, _), (_, _), (_, _), (_, _), (16, .v (.bool true))]) (by kernel_rfl) rfl rfl
        ⟨st_plain rfl (op_loadA _ _ _ _ _ _ _ Try.underlying24 rfl sz24 rfl rfl (Nat.le_of_ble_eq_true rfl) rfl rfl),
          st_plain rfl (op_call _ _ 11 _ _ rfl Try.call11 rfl (ok_wherryref01_RightBits s _ hv1) rfl rfl),
          st_plain rfl (op_un _ _ _ _ rfl rfl),
          st_plain rfl (op_move _ _ _ _ (congrArg (fun b => AV.v (Value.bool b)) hg1_3) rfl),
          st_skip 3 11 _ false rfl rfl rfl rfl (List.Mem.head _),
          st_skip 3 11 _ false rfl rfl rfl rfl (List.Mem.head _),
          st_skip 3 11 _ false rfl rfl rfl rfl (List.Mem.head _),
          st_skip 3 11 _ false rfl rfl rfl rfl (List.Mem.head _),
          st_plain rfl (op_pick _ _ true _ rfl rfl),
          trivial⟩ ?_
      exact hl5 _ (Option.some.inj h).symm
    · obtain ⟨v2, hv2, h⟩ := bind_some h
      refine ht_seqR hn (El := [_, _, _, _, (8, .agg [.fl .shr 1 (List.map (Value.int .u8) s.B), .v (.int .i64 s.N)]), (9, .v (.bool v1)), (10, .v (.bool (!v1))), (11, .v (.bool false)), (12, .v (.int .i64 v)), (13, .v (.int .i64 n)), (14, .v (.bool v2)), (15, .v (.bool (!v2))), (16, .v (.bool (!v2)))]) (init := [0, 1, 2, 3]) (fin := [0, 1, 2, 3, 12]) (sps := [⟨[2], [], [4], [(.slot 8)]⟩, ⟨[4], [], [5], [(.slot 9)]⟩, ⟨[5], [], [6], [(.slot 10)]⟩, ⟨[6], [], [7], [(.slot 11)]⟩, ⟨[7, 0], [], [8], [(.slot 12)]⟩, ⟨[7, 1], [], [9], [(.slot 13)]⟩, ⟨[7, 8, 9], [], [10], [(.slot 14)]⟩, ⟨[7, 10], [], [11], [(.slot 15)]⟩, ⟨[7, 11], [], [12], [(.slot 16)]⟩]) (es' := [(_, _), (_, _), (_, _), (_, _), (16, .v (.bool (!v2)))]) (by kernel_rfl) rfl rfl
        ⟨st_plain rfl (op_loadA _ _ _ _ _ _ _ Try.underlying24 rfl sz24 rfl rfl (Nat.le_of_ble_eq_true rfl) rfl rfl),
          st_plain rfl (op_call _ _ 11 _ _ rfl Try.call11 rfl (ok_wherryref01_RightBits s _ hv1) rfl rfl),
          st_plain rfl (op_un _ _ _ _ rfl rfl),
          st_plain rfl (op_move _ _ _ _ (congrArg (fun b => AV.v (Value.bool b)) hg1_3) rfl),
          st_run 3 11 false rfl rfl rfl (List.Mem.head _) (op_move _ _ _ _ rfl rfl),
          st_run 3 11 false rfl rfl rfl (List.Mem.head _) (op_move _ _ _ _ rfl rfl),
          st_run 3 11 false rfl rfl rfl (List.Mem.head _) (op_call _ _ 29 _ _ rfl Try.call29 rfl (ok_wherryref01_fits v n _ hv2) rfl rfl),
          st_run 3 11 false rfl rfl rfl (List.Mem.head _) (op_un _ _ _ _ rfl rfl),
          st_plain rfl (op_pick _ _ false _ rfl rfl),
          trivial⟩ ?_
      exact hl5 _ (Option.some.inj h).symm

set_option maxHeartbeats 1000000 in
theorem ok_bits_Fill (s : T_Bits) (r : (T_Bits × Int)) (h : Sh.bits_Fill s = some r) : FnOK Try.prog 14 [.agg [.fl .shr 1 (List.map (Value.int .u8) s.B), .v (.int .i64 s.N)]] (.tup [.agg [.fl (.own 5) 1 (List.map (Value.int .u8) r.1.B), .v (.int .i64 r.1.N)], .v (.int .i64 r.2)]) := by
  unfold Sh.bits_Fill at h
  refine fn_ok Try.func14 rfl (Nat.le_of_ble_eq_true rfl) rfl rfl fun g0 hn hio => ?_
  refine ht_seq ?_
  refine ht_seqR hn (El := [_, (1, .box 24 [.fl .shr 1 (List.map (Value.int .u8) s.B), .v (.int .i64 s.N)]), (2, .box 24 [.v (.slice none 0 0), .v (.int .i64 0)]), (3, .v (.int .i64 0))]) (init := [0]) (fin := [1, 2]) (sps := [⟨[0], [], [1], [(.slot 1)]⟩, ⟨[], [], [2], [(.slot 2)]⟩, ⟨[], [], [3], [(.slot 3)]⟩]) (es' := [(1, .box 24 [.fl .shr 1 (List.map (Value.int .u8) s.B), .v (.int .i64 s.N)]), (2, .box 24 [.v (.slice none 0 0), .v (.int .i64 0)])]) (by kernel_rfl) rfl rfl
    ⟨st_plain rfl (op_box _ _ _ _ rfl rfl rfl),
      st_plain rfl (op_alloc _ _ zr24),
      st_plain rfl (op_assign _ _ _ _ rfl rfl),
      trivial⟩ ?_
  refine pt_then ?_
  refine ht_seq ?_
  refine ht_seq ?_
  obtain ⟨v1, hv1, h⟩ := bind_some h
  refine ht_seqR hn (El := [_, _, (5, .agg [.fl .shr 1 (List.map (Value.int .u8) s.B), .v (.int .i64 s.N)]), (6, .v (.int .i64 v1)), (4, .v (.int .i64 v1))]) (init := [0, 1]) (fin := [0, 1, 4]) (sps := [⟨[0], [], [2], [(.slot 5)]⟩, ⟨[2], [], [3], [(.slot 6)]⟩, ⟨[3], [], [4], [(.slot 4)]⟩]) (es' := [(_, _), (_, _), (4, .v (.int .i64 v1))]) (by kernel_rfl) rfl rfl
    ⟨st_plain rfl (op_loadA _ _ _ _ _ _ _ Try.underlying24 rfl sz24 rfl rfl (Nat.le_of_ble_eq_true rfl) rfl rfl),
      st_plain rfl (op_call _ _ 16 _ _ rfl Try.call16 rfl (ok_bits_Check s _ hv1) rfl rfl),
      st_plain rfl (op_assign _ _ _ _ rfl rfl),
      trivial⟩ ?_
  refine pt_then ?_
  refine ht_seq ?_
  refine ht_seqR hn (El := [_, _, _, (7, .v (.int .i64 v1)), (8, .v (.bool (v1 != 0)))]) (init := [0, 1, 2]) (fin := [0, 1, 2, 4]) (sps := [⟨[2], [], [3], [(.slot 7)]⟩, ⟨[3], [], [4], [(.slot 8)]⟩]) (es' := [(_, _), (_, _), (_, _), (8, .v (.bool (v1 != 0)))]) (by kernel_rfl) rfl rfl
    ⟨st_plain rfl (op_move _ _ _ _ rfl rfl),
      st_plain rfl (op_bin _ _ _ _ _ rfl rfl rfl),
      trivial⟩ ?_
  refine pt_then ?_
  refine ht_cond _ rfl (fun hb2 => ?_) (fun hb2 => ?_)
  · have h := cond_t hb2 h
    refine ht_seq ?_
    refine ht_seqR hn (El := [_, _, _, _, (9, .agg [.v (.slice none 0 0), .v (.int .i64 0)]), (10, .v (.int .i64 v1)), (2, .box 24 [.v (.slice none 0 0), .v (.int .i64 0)]), (3, .v (.int .i64 v1))]) (init := [0, 1, 2, 3]) (fin := [6, 7]) (sps := [⟨[], [], [4], [(.slot 9)]⟩, ⟨[2], [], [5], [(.slot 10)]⟩, ⟨[4], [1], [6], [.cell 2 0, .cell 2 1]⟩, ⟨[5], [], [7], [(.slot 3)]⟩]) (es' := [(2, .box 24 [.v (.slice none 0 0), .v (.int .i64 0)]), (3, .v (.int .i64 v1))]) (by kernel_rfl) rfl rfl
      ⟨st_plain rfl (op_build _ _ _ _ [1, 1] _ _ Try.underlying24 zr24 (fs24 _ Try.underlying24) Src.nil rfl rfl rfl),
        st_plain rfl (op_move _ _ _ _ rfl rfl),
        st_plain rfl (op_store _ _ _ _ _ _ _ _ sz24 rfl rfl rfl rfl (Nat.le_of_ble_eq_true rfl) rfl rfl),
        st_plain rfl (op_assign _ _ _ _ rfl rfl),
        trivial⟩ ?_
    refine pt_then ?_
    refine ht_ret ?_
    refine pt_sub (fs := [(2, .box 24 [.fl (.own 5) 1 (List.map (Value.int .u8) []), .v (.int .i64 0)]), (3, .v (.int .i64 v1))]) (.box _ _ (subs_cons (sub_nil 5 1) (subs_cons (sub_refl _) (subs_nil))) rfl (.same _ .nil)) ?_
    refine pt_r_then ?_
    obtain rfl := Option.some.inj h
    exact pt_ret hio rfl (.cellA _ _ _ _ Try.underlying24 rfl sz24 (.tmp _ _ .nil)) rfl rfl
  · have h := cond_f hb2 h
    refine ht_skip ?_
    refine pt_then ?_
    refine ht_seq ?_
    obtain ⟨v3, hv3, h⟩ := bind_some h
    obtain ⟨v4, hv4, h⟩ := bind_some h
    refine ht_anyR (by kernel_rfl) hn (El := [_, _, _, _, (11, .ptr 1 0), (12, .fl .shr 1 (List.map (Value.int .u8) s.B)), (13, .fl (.own 5) 1 (List.map (Value.int .u8) v3)), (14, .ptr 1 0), (15, .fl .shr 1 (List.map (Value.int .u8) s.B)), (16, .v (.int .i64 (s.B.length : Int))), (17, .v (.int .i64 v4)), (18, .agg [.fl (.own 5) 1 (List.map (Value.int .u8) v3), .v (.int .i64 v4)]), (2, .box 24 [.fl (.own 5) 1 (List.map (Value.int .u8) v3), .v (.int .i64 v4)]), (3, .v (.int .i64 0))]) (init := [0, 1, 2, 3]) (fin := [12, 13]) (sps := [⟨[0], [], [4], [(.slot 11)]⟩, ⟨[4, 0], [], [5], [(.slot 12)]⟩, ⟨[5], [], [6], [(.slot 13)]⟩, ⟨[0], [], [7], [(.slot 14)]⟩, ⟨[7, 0], [], [8], [(.slot 15)]⟩, ⟨[8], [], [9], [(.slot 16)]⟩, ⟨[9], [], [10], [(.slot 17)]⟩, ⟨[10], [6], [11], [(.slot 18)]⟩, ⟨[], [11, 1], [12], [.cell 2 0, .cell 2 1]⟩, ⟨[], [], [13], [(.slot 3)]⟩]) (es' := [(2, .box 24 [.fl (.own 5) 1 (List.map (Value.int .u8) v3), .v (.int .i64 v4)]), (3, .v (.int .i64 0))]) (by kernel_rfl) rfl rfl
      ⟨st_plain rfl (op_fieldAddr _ _ _ _ 1 0 _ Try.underlying24 rfl sz22 rfl rfl (by decide)),
        st_plain rfl (op_load _ _ _ _ _ _ Try.underlying22 rfl rfl rfl (Nat.le_of_ble_eq_true rfl) rfl rfl rfl),
        st_plain rfl (op_app_nil _ _ _ _ el22 rfl rfl (map_len _) hv3 (congrArg (List.map _) (app_nil_eq hv3))),
        st_plain rfl (op_fieldAddr _ _ _ _ 1 0 _ Try.underlying24 rfl sz22 rfl rfl (by decide)),
        st_plain rfl (op_load _ _ _ _ _ _ Try.underlying22 rfl rfl rfl (Nat.le_of_ble_eq_true rfl) rfl rfl rfl),
        st_plain rfl (op_len_fl _ _ _ Try.underlying22 rfl (by decide) (map_len _)),
        st_plain rfl (op_bin _ _ _ _ _ rfl rfl (ibind (f := Value.int .i64) (Option.some.inj hv4))),
        st_plain rfl (op_build _ _ _ _ [1, 1] _ _ Try.underlying24 zr24 (fs24 _ Try.underlying24) (.take _ _ (.copy _ Src.nil)) rfl rfl rfl),
        st_plain rfl (op_store_take _ _ _ _ _ _ _ _ sz24 rfl rfl rfl (Nat.le_of_ble_eq_true rfl) rfl rfl),
        st_plain rfl (op_assign _ _ _ _ rfl rfl),
        trivial⟩ ?_
    refine pt_then ?_
    refine ht_ret ?_
    obtain rfl := Option.some.inj h
    exact pt_ret hio rfl (.cellA _ _ _ _ Try.underlying24 rfl sz24 (.tmp _ _ .nil)) rfl rfl

set_option maxHeartbeats 1000000 in
theorem ok_wherryref01_Fill (s : T_Bits) (r : (T_Bits × Int)) (h : Sh.wherryref01_Fill s = some r) : FnOK Try.prog 15 [.agg [.fl .shr 1 (List.map (Value.int .u8) s.B), .v (.int .i64 s.N)]] (.tup [.agg [.fl (.own 5) 1 (List.map (Value.int .u8) r.1.B), .v (.int .i64 r.1.N)], .v (.int .i64 r.2)]) := by
  unfold Sh.wherryref01_Fill at h
  refine fn_ok Try.func15 rfl (Nat.le_of_ble_eq_true rfl) rfl rfl fun g0 hn hio => ?_
  refine ht_seq ?_
  refine ht_seqR hn (El := [_, (1, .box 24 [.fl .shr 1 (List.map (Value.int .u8) s.B), .v (.int .i64 s.N)]), (2, .box 24 [.v (.slice none 0 0), .v (.int .i64 0)]), (3, .v (.int .i64 0))]) (init := [0]) (fin := [1, 2]) (sps := [⟨[0], [], [1], [(.slot 1)]⟩, ⟨[], [], [2], [(.slot 2)]⟩, ⟨[], [], [3], [(.slot 3)]⟩]) (es' := [(1, .box 24 [.fl .shr 1 (List.map (Value.int .u8) s.B), .v (.int .i64 s.N)]), (2, .box 24 [.v (.slice none 0 0), .v (.int .i64 0)])]) (by kernel_rfl) rfl rfl
    ⟨st_plain rfl (op_box _ _ _ _ rfl rfl rfl),
      st_plain rfl (op_alloc _ _ zr24),
      st_plain rfl (op_assign _ _ _ _ rfl rfl),
      trivial⟩ ?_
  refine pt_then ?_
  refine ht_seq ?_
  refine ht_seq ?_
  obtain ⟨v1, hv1, h⟩ := bind_some h
  refine ht_seqR hn (El := [_, _, (4, .agg [.fl .shr 1 (List.map (Value.int .u8) s.B), .v (.int .i64 s.N)]), (5, .v (.bool v1)), (6, .v (.bool (!v1)))]) (init := [0, 1]) (fin := [0, 1, 4]) (sps := [⟨[0], [], [2], [(.slot 4)]⟩, ⟨[2], [], [3], [(.slot 5)]⟩, ⟨[3], [], [4], [(.slot 6)]⟩]) (es' := [(_, _), (_, _), (6, .v (.bool (!v1)))]) (by kernel_rfl) rfl rfl
    ⟨st_plain rfl (op_loadA _ _ _ _ _ _ _ Try.underlying24 rfl sz24 rfl rfl (Nat.le_of_ble_eq_true rfl) rfl rfl),
      st_plain rfl (op_call _ _ 11 _ _ rfl Try.call11 rfl (ok_wherryref01_RightBits s _ hv1) rfl rfl),
      st_plain rfl (op_un _ _ _ _ rfl rfl),
      trivial⟩ ?_
  refine pt_then ?_
  refine ht_cond _ rfl (fun hb2 => ?_) (fun hb2 => ?_)
  · have h := cond_t hb2 h
    refine ht_seq ?_
    refine ht_seqR hn (El := [_, _, _, (7, .agg [.v (.slice none 0 0), .v (.int .i64 0)]), (2, .box 24 [.v (.slice none 0 0), .v (.int .i64 0)]), (3, .v (.int .i64 1))]) (init := [0, 1, 2]) (fin := [4, 5]) (sps := [⟨[], [], [3], [(.slot 7)]⟩, ⟨[3], [1], [4], [.cell 2 0, .cell 2 1]⟩, ⟨[], [], [5], [(.slot 3)]⟩]) (es' := [(2, .box 24 [.v (.slice none 0 0), .v (.int .i64 0)]), (3, .v (.int .i64 1))]) (by kernel_rfl) rfl rfl
      ⟨st_plain rfl (op_build _ _ _ _ [1, 1] _ _ Try.underlying24 zr24 (fs24 _ Try.underlying24) Src.nil rfl rfl rfl),
        st_plain rfl (op_store _ _ _ _ _ _ _ _ sz24 rfl rfl rfl rfl (Nat.le_of_ble_eq_true rfl) rfl rfl),
        st_plain rfl (op_assign _ _ _ _ rfl rfl),
        trivial⟩ ?_
    refine pt_then ?_
    refine ht_ret ?_
    refine pt_sub (fs := [(2, .box 24 [.fl (.own 5) 1 (List.map (Value.int .u8) []), .v (.int .i64 0)]), (3, .v (.int .i64 1))]) (.box _ _ (subs_cons (sub_nil 5 1) (subs_cons (sub_refl _) (subs_nil))) rfl (.same _ .nil)) ?_
    refine pt_r_then ?_
    obtain rfl := Option.some.inj h
    exact pt_ret hio rfl (.cellA _ _ _ _ Try.underlying24 rfl sz24 (.tmp _ _ .nil)) rfl rfl
  · have h := cond_f hb2 h
    refine ht_skip ?_
    refine pt_then ?_
    refine ht_seq ?_
    obtain ⟨v3, hv3, h⟩ := bind_some h
    obtain ⟨v4, hv4, h⟩ := bind_some h
    refine ht_anyR (by kernel_rfl) hn (El := [_, _, _, (8, .ptr 1 0), (9, .fl .shr 1 (List.map (Value.int .u8) s.B)), (10, .fl (.own 5) 1 (List.map (Value.int .u8) v3)), (11, .ptr 1 0), (12, .fl .shr 1 (List.map (Value.int .u8) s.B)), (13, .v (.int .i64 (s.B.length : Int))), (14, .v (.int .i64 v4)), (15, .agg [.fl (.own 5) 1 (List.map (Value.int .u8) v3), .v (.int .i64 v4)]), (2, .box 24 [.fl (.own 5) 1 (List.map (Value.int .u8) v3), .v (.int .i64 v4)]), (3, .v (.int .i64 0))]) (init := [0, 1, 2]) (fin := [11, 12]) (sps := [⟨[0], [], [3], [(.slot 8)]⟩, ⟨[3, 0], [], [4], [(.slot 9)]⟩, ⟨[4], [], [5], [(.slot 10)]⟩, ⟨[0], [], [6], [(.slot 11)]⟩, ⟨[6, 0], [], [7], [(.slot 12)]⟩, ⟨[7], [], [8], [(.slot 13)]⟩, ⟨[8], [], [9], [(.slot 14)]⟩, ⟨[9], [5], [10], [(.slot 15)]⟩, ⟨[], [10, 1], [11], [.cell 2 0, .cell 2 1]⟩, ⟨[], [], [12], [(.slot 3)]⟩]) (es' := [(2, .box 24 [.fl (.own 5) 1 (List.map (Value.int .u8) v3), .v (.int .i64 v4)]), (3, .v (.int .i64 0))]) (by kernel_rfl) rfl rfl
      ⟨st_plain rfl (op_fieldAddr _ _ _ _ 1 0 _ Try.underlying24 rfl sz22 rfl rfl (by decide)),
        st_plain rfl (op_load _ _ _ _ _ _ Try.underlying22 rfl rfl rfl (Nat.le_of_ble_eq_true rfl) rfl rfl rfl),
        st_plain rfl (op_call _ _ 10 _ _ rfl Try.call10 rfl (ok_wherrykeep_Twin s.B _ hv3) rfl rfl),
        st_plain rfl (op_fieldAddr _ _ _ _ 1 0 _ Try.underlying24 rfl sz22 rfl rfl (by decide)),
        st_plain rfl (op_load _ _ _ _ _ _ Try.underlying22 rfl rfl rfl (Nat.le_of_ble_eq_true rfl) rfl rfl rfl),
        st_plain rfl (op_len_fl _ _ _ Try.underlying22 rfl (by decide) (map_len _)),
        st_plain rfl (op_bin _ _ _ _ _ rfl rfl (ibind (f := Value.int .i64) (Option.some.inj hv4))),
        st_plain rfl (op_build _ _ _ _ [1, 1] _ _ Try.underlying24 zr24 (fs24 _ Try.underlying24) (.take _ _ (.copy _ Src.nil)) rfl rfl rfl),
        st_plain rfl (op_store_take _ _ _ _ _ _ _ _ sz24 rfl rfl rfl (Nat.le_of_ble_eq_true rfl) rfl rfl),
        st_plain rfl (op_assign _ _ _ _ rfl rfl),
        trivial⟩ ?_
    refine pt_then ?_
    refine ht_ret ?_
    obtain rfl := Option.some.inj h
    exact pt_ret hio rfl (.cellA _ _ _ _ Try.underlying24 rfl sz24 (.tmp _ _ .nil)) rfl rfl

set_option maxHeartbeats 1000000 in
theorem ok_wherrykeep_Bytes (a : (List Int)) (b : (List Int)) (r : Bool) (h : Sh.wherrykeep_Bytes a b = some r) : FnOK Try.prog 23 [.fl .shr 1 (List.map (Value.int .u8) a), .fl .shr 1 (List.map (Value.int .u8) b)] (.v (.bool r)) := by
  unfold Sh.wherrykeep_Bytes at h
  refine fn_ok Try.func23 rfl (Nat.le_of_ble_eq_true rfl) rfl rfl fun g0 hn hio => ?_
  refine ht_seq ?_
  refine ht_seqR hn (El := [_, _, (4, .v (.bool false))]) (init := [0, 1]) (fin := [0, 1]) (sps := [⟨[], [], [2], [(.slot 4)]⟩]) (es' := [(_, _), (_, _)]) (by kernel_rfl) rfl rfl
    ⟨st_plain rfl (op_assign _ _ _ _ rfl rfl),
      trivial⟩ ?_
  refine pt_then ?_
  refine ht_seq ?_
  refine ht_seq ?_
  refine ht_seqR hn (El := [_, _, (6, .fl .shr 1 (List.map (Value.int .u8) a)), (7, .v (.int .i64 (a.length : Int))), (8, .fl .shr 1 (List.map (Value.int .u8) b)), (9, .v (.int .i64 (b.length : Int))), (10, .v (.bool (((a.length : Int) != (b.length : Int)))))]) (init := [0, 1]) (fin := [0, 1, 6]) (sps := [⟨[0], [], [2], [(.slot 6)]⟩, ⟨[2], [], [3], [(.slot 7)]⟩, ⟨[1], [], [4], [(.slot 8)]⟩, ⟨[4], [], [5], [(.slot 9)]⟩, ⟨[3, 5], [], [6], [(.slot 10)]⟩]) (es' := [(_, _), (_, _), (10, .v (.bool (((a.length : Int) != (b.length : Int)))))]) (by kernel_rfl) rfl rfl
    ⟨st_plain rfl (op_move _ _ _ _ rfl rfl),
      st_plain rfl (op_len_fl _ _ _ Try.underlying22 rfl (by decide) (map_len _)),
      st_plain rfl (op_move _ _ _ _ rfl rfl),
      st_plain rfl (op_len_fl _ _ _ Try.underlying22 rfl (by decide) (map_len _)),
      st_plain rfl (op_bin _ _ _ _ _ rfl rfl rfl),
      trivial⟩ ?_
  refine pt_then ?_
  refine ht_cond _ rfl (fun hb1 => ?_) (fun hb1 => ?_)
  · have h := cond_t hb1 h
    refine ht_seq ?_
    refine ht_seqR hn (El := [_, _, _, (4, .v (.bool false))]) (init := [0, 1, 2]) (fin := [3]) (sps := [⟨[], [], [3], [(.slot 4)]⟩]) (es' := [(4, .v (.bool false))]) (by kernel_rfl) rfl rfl
      ⟨st_plain rfl (op_assign _ _ _ _ rfl rfl),
        trivial⟩ ?_
    refine pt_then ?_
    refine ht_ret ?_
    refine pt_r_then ?_
    obtain rfl := Option.some.inj h
    exact pt_ret hio rfl (.tmp _ _ .nil) rfl rfl
  · have h := cond_f hb1 h
    refine ht_skip ?_
    refine pt_then ?_
    refine ht_seq ?_
    refine ht_seq ?_
    refine ht_seqR hn (El := [_, _, _, (5, .v (.int .i64 0))]) (init := [0, 1, 2]) (fin := [0, 1, 3]) (sps := [⟨[], [], [3], [(.slot 5)]⟩]) (es' := [(_, _), (_, _), (5, .v (.int .i64 0))]) (by kernel_rfl) rfl rfl
      ⟨st_plain rfl (op_assign _ _ _ _ rfl rfl),
        trivial⟩ ?_
    refine pt_then ?_
    refine ht_loopS h (fun (s12 : Int) => [(0, .fl .shr 1 (List.map (Value.int .u8) a)), (1, .fl .shr 1 (List.map (Value.int .u8) b)), (5, .v (.int .i64 s12))]) (fun (() : Unit) => []) ?_ ?_
    · rintro ⟨⟩ h
      refine pt_then ?_
      refine ht_seq ?_
      refine ht_seqR hn (El := [(4, .v (.bool true))]) (init := []) (fin := [0]) (sps := [⟨[], [], [0], [(.slot 4)]⟩]) (es' := [(4, .v (.bool true))]) (by kernel_rfl) rfl rfl
        ⟨st_plain rfl (op_assign _ _ _ _ rfl rfl),
          trivial⟩ ?_
      refine pt_then ?_
      refine ht_ret ?_
      obtain rfl := Option.some.inj h
      exact pt_ret hio rfl (.tmp _ _ .nil) rfl rfl
    · rintro u15 hl16 hr17 s12 rr20 h ho18
      refine ht_seq ?_
      refine ht_seq ?_
      refine ht_seqR hn (El := [_, _, _, (11, .v (.int .i64 s12)), (12, .fl .shr 1 (List.map (Value.int .u8) a)), (13, .v (.int .i64 (a.length : Int))), (14, .v (.bool ((decide (s12 < (a.length : Int))))))]) (init := [0, 1, 2]) (fin := [0, 1, 2, 6]) (sps := [⟨[2], [], [3], [(.slot 11)]⟩, ⟨[0], [], [4], [(.slot 12)]⟩, ⟨[4], [], [5], [(.slot 13)]⟩, ⟨[3, 5], [], [6], [(.slot 14)]⟩]) (es' := [(_, _), (_, _), (_, _), (14, .v (.bool ((decide (s12 < (a.length : Int))))))]) (by kernel_rfl) rfl rfl
        ⟨st_plain rfl (op_move _ _ _ _ rfl rfl),
          st_plain rfl (op_move _ _ _ _ rfl rfl),
          st_plain rfl (op_len_fl _ _ _ Try.underlying22 rfl (by decide) (map_len _)),
          st_plain rfl (op_bin _ _ _ _ _ rfl rfl rfl),
          trivial⟩ ?_
      refine pt_then ?_
      refine ht_cond _ rfl (fun hb21 => ?_) (fun hb21 => ?_)
      · have h := cond_t hb21 h
        refine ht_skip ?_
        refine pt_then ?_
        refine ht_seq ?_
        refine ht_block ?_
        refine ht_seq ?_
        obtain ⟨v3, hv3, h⟩ := bind_some h
        obtain ⟨v4, hv4, h⟩ := bind_some h
        obtain ⟨v5, hv5, h⟩ := bind_some h
        obtain ⟨v6, hv6, h⟩ := bind_some h
        refine ht_anyR (by kernel_rfl) hn (El := [_, _, _, _, (17, .fl .shr 1 (List.map (Value.int .u8) a)), (18, .v (.int .i64 s12)), (19, .eref (.slot 17) (v3 * 1)), (20, .v (.int .u8 v4)), (21, .fl .shr 1 (List.map (Value.int .u8) b)), (22, .v (.int .i64 s12)), (23, .eref (.slot 21) (v5 * 1)), (24, .v (.int .u8 v6)), (25, .v (.bool (v4 != v6)))]) (init := [0, 1, 2, 3]) (fin := [0, 1, 2, 12]) (sps := [⟨[0], [], [4], [(.slot 17)]⟩, ⟨[2], [], [5], [(.slot 18)]⟩, ⟨[4, 5], [], [6], [(.slot 19)]⟩, ⟨[6, 4], [], [7], [(.slot 20)]⟩, ⟨[1], [], [8], [(.slot 21)]⟩, ⟨[2], [], [9], [(.slot 22)]⟩, ⟨[8, 9], [], [10], [(.slot 23)]⟩, ⟨[10, 8], [], [11], [(.slot 24)]⟩, ⟨[7, 11], [], [12], [(.slot 25)]⟩]) (es' := [(_, _), (_, _), (_, _), (25, .v (.bool (v4 != v6)))]) (by kernel_rfl) rfl rfl
          ⟨st_plain rfl (op_move _ _ _ _ rfl rfl),
            st_plain rfl (op_move _ _ _ _ rfl rfl),
            st_plain rfl (op_ix _ _ _ _ _ _ _ _ Try.underlying22 sz5 (by decide) rfl rfl rfl (ix_ok hv3).1 (map_lt (ix_ok hv3).2) rfl),
            st_plain rfl (op_load_e _ _ _ _ _ _ Try.underlying5 rfl rfl rfl (map_get hv4)),
            st_plain rfl (op_move _ _ _ _ rfl rfl),
            st_plain rfl (op_move _ _ _ _ rfl rfl),
            st_plain rfl (op_ix _ _ _ _ _ _ _ _ Try.underlying22 sz5 (by decide) rfl rfl rfl (ix_ok hv5).1 (map_lt (ix_ok hv5).2) rfl),
            st_plain rfl (op_load_e _ _ _ _ _ _ Try.underlying5 rfl rfl rfl (map_get hv6)),
            st_plain rfl (op_bin _ _ _ _ _ rfl rfl rfl),
            trivial⟩ ?_
        refine pt_then ?_
        refine ht_cond _ rfl (fun hb22 => ?_) (fun hb22 => ?_)
        · have h := cond_t hb22 h
          refine ht_seq ?_
          refine ht_seqR hn (El := [_, _, _, _, (4, .v (.bool false))]) (init := [0, 1, 2, 3]) (fin := [4]) (sps := [⟨[], [], [4], [(.slot 4)]⟩]) (es' := [(4, .v (.bool false))]) (by kernel_rfl) rfl rfl
            ⟨st_plain rfl (op_assign _ _ _ _ rfl rfl),
              trivial⟩ ?_
          refine pt_then ?_
          refine ht_ret ?_
          refine pt_r_in ?_
          refine pt_r_then ?_
          refine pt_r_then ?_
          refine pt_r_in ?_
          refine pt_r_then ?_
          have h := hr17 _ (ho18 _ (Option.some.inj h).symm).symm
          obtain rfl := Option.some.inj h
          exact pt_ret hio rfl (.tmp _ _ .nil) rfl rfl
        · have h := cond_f hb22 h
          refine ht_skip ?_
          refine pt_inb ?_
          refine pt_then ?_
          obtain ⟨v8, hv8, h⟩ := bind_some h
          refine ht_seqR hn (El := [_, _, _, _, (15, .v (.int .i64 s12)), (16, .v (.int .i64 v8)), (5, .v (.int .i64 v8))]) (init := [0, 1, 2, 3]) (fin := [0, 1, 6]) (sps := [⟨[2], [], [4], [(.slot 15)]⟩, ⟨[4], [], [5], [(.slot 16)]⟩, ⟨[5], [2], [6], [(.slot 5)]⟩]) (es' := [(_, _), (_, _), (5, .v (.int .i64 v8))]) (by kernel_rfl) rfl rfl
            ⟨st_plain rfl (op_move _ _ _ _ rfl rfl),
              st_plain rfl (op_bin _ _ _ _ _ rfl rfl (ibind (f := Value.int .i64) (Option.some.inj hv8))),
              st_plain rfl (LOp.drop [_] (op_assign _ _ _ _ rfl rfl)),
              trivial⟩ ?_
          exact pt_next _ (Option.some.inj h).symm rfl
      · have h := cond_f hb21 h
        refine ht_exit ?_
        refine pt_x_then ?_
        refine pt_x_then ?_
        refine pt_x_in ?_
        refine pt_pick [] (by kernel_rfl) (es' := []) rfl ?_
        exact hl16 _ (ho18 _ (Option.some.inj h).symm).symm

set_option maxHeartbeats 1000000 in
theorem ok_wherrykeep_Bits (a : T_Bits) (b : T_Bits) (r : Bool) (h : Sh.wherrykeep_Bits a b = some r) : FnOK Try.prog 17 [.agg [.fl .shr 1 (List.map (Value.int .u8) a.B), .v (.int .i64 a.N)], .agg [.fl .shr 1 (List.map (Value.int .u8) b.B), .v (.int .i64 b.N)]] (.v (.bool r)) := by
  unfold Sh.wherrykeep_Bits at h
  refine fn_ok Try.func17 rfl (Nat.le_of_ble_eq_true rfl) rfl rfl fun g0 hn hio => ?_
  refine ht_seq ?_
  refine ht_seqR hn (El := [_, _, (2, .box 24 [.fl .shr 1 (List.map (Value.int .u8) a.B), .v (.int .i64 a.N)]), (3, .box 24 [.fl .shr 1 (List.map (Value.int .u8) b.B), .v (.int .i64 b.N)]), (4, .v (.bool false))]) (init := [0, 1]) (fin := [2, 3]) (sps := [⟨[0], [], [2], [(.slot 2)]⟩, ⟨[1], [], [3], [(.slot 3)]⟩, ⟨[], [], [4], [(.slot 4)]⟩]) (es' := [(2, .box 24 [.fl .shr 1 (List.map (Value.int .u8) a.B), .v (.int .i64 a.N)]), (3, .box 24 [.fl .shr 1 (List.map (Value.int .u8) b.B), .v (.int .i64 b.N)])]) (by kernel_rfl) rfl rfl
    ⟨st_plain rfl (op_box _ _ _ _ rfl rfl rfl),
      st_plain rfl (op_box _ _ _ _ rfl rfl rfl),
      st_plain rfl (op_assign _ _ _ _ rfl rfl),
      trivial⟩ ?_
  refine pt_then ?_
  refine ht_seq ?_
  refine ht_joinS h (fun (s2 : Bool) => [(4, .v (.bool s2))]) ?_ ?_
  · rintro s2 h
    refine pt_then ?_
    refine ht_ret ?_
    obtain rfl := Option.some.inj h
    exact pt_ret hio rfl (.tmp _ _ .nil) rfl rfl
  · intro u3 h hl4 hr5
    refine cond_some h (fun hg1_5 h => ?_) (fun hg1_5 h => ?_)
    · obtain ⟨v1, hv1, h⟩ := bind_some h
      refine ht_seqR hn (El := (_ :: _ :: (5, .ptr 2 1) :: (6, .v (.int .i64 a.N)) :: (7, .ptr 3 1) :: (8, .v (.int .i64 b.N)) :: (9, .v (.bool (a.N == b.N))) :: (10, .v (.bool true)) :: (11, .ptr 2 0) :: (12, .fl .shr 1 (List.map (Value.int .u8) a.B)) :: (13, .ptr 3 0) :: (14, .fl .shr 1 (List.map (Value.int .u8) b.B)) :: (15, .v (.bool v1)) :: (16, .v (.bool v1)) :: (4, .v (.bool v1)) :: [])) (init := [0, 1]) (fin := [14]) (sps := [⟨[0], [], [2], [(.slot 5)]⟩, ⟨[2, 0], [], [3], [(.slot 6)]⟩, ⟨[1], [], [4], [(.slot 7)]⟩, ⟨[4, 1], [], [5], [(.slot 8)]⟩, ⟨[3, 5], [], [6], [(.slot 9)]⟩, ⟨[6], [], [7], [(.slot 10)]⟩, ⟨[7, 0], [], [8], [(.slot 11)]⟩, ⟨[7, 8, 0], [], [9], [(.slot 12)]⟩, ⟨[7, 1], [], [10], [(.slot 13)]⟩, ⟨[7, 10, 1], [], [11], [(.slot 14)]⟩, ⟨[7, 9, 11], [], [12], [(.slot 15)]⟩, ⟨[7, 12], [], [13], [(.slot 16)]⟩, ⟨[13], [], [14], [(.slot 4)]⟩]) (es' := [(4, .v (.bool v1))]) (by kernel_rfl) rfl rfl
        ⟨st_plain rfl (op_fieldAddr _ _ _ _ 2 0 _ Try.underlying24 rfl sz3 rfl rfl (by decide)),
          st_plain rfl (op_load _ _ _ _ _ _ Try.underlying3 rfl rfl rfl (Nat.le_of_ble_eq_true rfl) rfl rfl rfl),
          st_plain rfl (op_fieldAddr _ _ _ _ 3 0 _ Try.underlying24 rfl sz3 rfl rfl (by decide)),
          st_plain rfl (op_load _ _ _ _ _ _ Try.underlying3 rfl rfl rfl (Nat.le_of_ble_eq_true rfl) rfl rfl rfl),
          st_plain rfl (op_bin _ _ _ _ _ rfl rfl rfl),
          st_plain rfl (op_move _ _ _ _ (congrArg (fun b => AV.v (Value.bool b)) hg1_5) rfl),
          st_run 5 10 true rfl rfl rfl (List.Mem.head _) (op_fieldAddr _ _ _ _ 2 0 _ Try.underlying24 rfl sz22 rfl rfl (by decide)),
          st_run 5 10 true rfl rfl rfl (List.Mem.head _) (op_load _ _ _ _ _ _ Try.underlying22 rfl rfl rfl (Nat.le_of_ble_eq_true rfl) rfl rfl rfl),
          st_run 5 10 true rfl rfl rfl (List.Mem.head _) (op_fieldAddr _ _ _ _ 3 0 _ Try.underlying24 rfl sz22 rfl rfl (by decide)),
          st_run 5 10 true rfl rfl rfl (List.Mem.head _) (op_load _ _ _ _ _ _ Try.underlying22 rfl rfl rfl (Nat.le_of_ble_eq_true rfl) rfl rfl rfl),
          st_run 5 10 true rfl rfl rfl (List.Mem.head _) (op_call _ _ 23 _ _ rfl Try.call23 rfl (ok_wherrykeep_Bytes a.B b.B _ hv1) rfl rfl),
          st_plain rfl (op_pick _ _ true _ rfl rfl),
          st_plain rfl (op_assign _ _ _ _ rfl rfl),
          trivial⟩ ?_
      exact hl4 _ (Option.some.inj h).symm
    · refine ht_seqR hn (El := (_ :: _ :: (5, .ptr 2 1) :: (6, .v (.int .i64 a.N)) :: (7, .ptr 3 1) :: (8, .v (.int .i64 b.N)) :: (9, .v (.bool (a.N == b.N))) :: (10, .v (.bool false)) :: (11, .v undef) :: (12, .v undef) :: (13, .v undef) :: (14, .v undef) :: (15, .v undef) :: (16, .v (.bool false)) :: (4, .v (.bool false)) :: [])) (init := [0, 1]) (fin := [14]) (sps := [⟨[0], [], [2], [(.slot 5)]⟩, ⟨[2, 0], [], [3], [(.slot 6)]⟩, ⟨[1], [], [4], [(.slot 7)]⟩, ⟨[4, 1], [], [5], [(.slot 8)]⟩, ⟨[3, 5], [], [6], [(.slot 9)]⟩, ⟨[6], [], [7], [(.slot 10)]⟩, ⟨[7], [], [8], [(.slot 11)]⟩, ⟨[7], [], [9], [(.slot 12)]⟩, ⟨[7], [], [10], [(.slot 13)]⟩, ⟨[7], [], [11], [(.slot 14)]⟩, ⟨[7], [], [12], [(.slot 15)]⟩, ⟨[7], [], [13], [(.slot 16)]⟩, ⟨[13], [], [14], [(.slot 4)]⟩]) (es' := [(4, .v (.bool false))]) (by kernel_rfl) rfl rfl
        ⟨st_plain rfl (op_fieldAddr _ _ _ _ 2 0 _ Try.underlying24 rfl sz3 rfl rfl (by decide)),
          st_plain rfl (op_load _ _ _ _ _ _ Try.underlying3 rfl rfl rfl (Nat.le_of_ble_eq_true rfl) rfl rfl rfl),
          st_plain rfl (op_fieldAddr _ _ _ _ 3 0 _ Try.underlying24 rfl sz3 rfl rfl (by decide)),
          st_plain rfl (op_load _ _ _ _ _ _ Try.underlying3 rfl rfl rfl (Nat.le_of_ble_eq_true rfl) rfl rfl rfl),
          st_plain rfl (op_bin _ _ _ _ _ rfl rfl rfl),
          st_plain rfl (op_move _ _ _ _ (congrArg (fun b => AV.v (Value.bool b)) hg1_5) rfl),
          st_skip 5 10 _ true rfl rfl rfl rfl (List.Mem.head _),
          st_skip 5 10 _ true rfl rfl rfl rfl (List.Mem.head _),
          st_skip 5 10 _ true rfl rfl rfl rfl (List.Mem.head _),
          st_skip 5 10 _ true rfl rfl rfl rfl (List.Mem.head _),
          st_skip 5 10 _ true rfl rfl rfl rfl (List.Mem.head _),
          st_plain rfl (op_pick _ _ false _ rfl rfl),
          st_plain rfl (op_assign _ _ _ _ rfl rfl),
          trivial⟩ ?_
      exact hl4 _ (Option.some.inj h).symm

set_option maxHeartbeats 1000000 in
theorem ok_bits_Get (b : (List Int)) (at_ : Int) (n : Int) (r : (Int × Int × Int)) (h : Sh.bits_Get b at_ n = some r) : FnOK Try.prog 18 [.fl .shr 1 (List.map (Value.int .u8) b), .v (.int .i64 at_), .v (.int .i64 n)] (.tup [.v (.int .i64 r.1), .v (.int .i64 r.2.1), .v (.int .i64 r.2.2)]) := by
  unfold Sh.bits_Get at h
  refine fn_ok Try.func18 rfl (Nat.le_of_ble_eq_true rfl) rfl rfl fun g0 hn hio => ?_
  refine ht_seq ?_
  refine ht_seqR hn (El := [_, _, _, (6, .v (.int .i64 0)), (7, .v (.int .i64 0)), (8, .v (.int .i64 0))]) (init := [0, 1, 2]) (fin := [0, 1, 2]) (sps := [⟨[], [], [3], [(.slot 6)]⟩, ⟨[], [], [4], [(.slot 7)]⟩, ⟨[], [], [5], [(.slot 8)]⟩]) (es' := [(_, _), (_, _), (_, _)]) (by kernel_rfl) rfl rfl
    ⟨st_plain rfl (op_assign _ _ _ _ rfl rfl),
      st_plain rfl (op_assign _ _ _ _ rfl rfl),
      st_plain rfl (op_assign _ _ _ _ rfl rfl),
      trivial⟩ ?_
  refine pt_then ?_
  refine ht_seq ?_
  refine ht_seq ?_
  refine ht_joinS h (fun (s2 : Bool) => [(0, .fl .shr 1 (List.map (Value.int .u8) b)), (1, .v (.int .i64 at_)), (2, .v (.int .i64 n)), (29, .v (.bool s2))]) ?_ ?_
  · rintro s2 h
    refine pt_then ?_
    refine ht_cond _ rfl (fun hb6 => ?_) (fun hb6 => ?_)
    · have h := cond_t hb6 h
      refine ht_seq ?_
      refine ht_seqR hn (El := [_, _, _, _, (6, .v (.int .i64 0)), (7, .v (.int .i64 0)), (8, .v (.int .i64 1))]) (init := [0, 1, 2, 3]) (fin := [4, 5, 6]) (sps := [⟨[], [], [4], [(.slot 6)]⟩, ⟨[], [], [5], [(.slot 7)]⟩, ⟨[], [], [6], [(.slot 8)]⟩]) (es' := [(6, .v (.int .i64 0)), (7, .v (.int .i64 0)), (8, .v (.int .i64 1))]) (by kernel_rfl) rfl rfl
        ⟨st_plain rfl (op_assign _ _ _ _ rfl rfl),
          st_plain rfl (op_assign _ _ _ _ rfl rfl),
          st_plain rfl (op_assign _ _ _ _ rfl rfl),
          trivial⟩ ?_
      refine pt_then ?_
      refine ht_ret ?_
      refine pt_r_then ?_
      obtain rfl := Option.some.inj h
      exact pt_ret hio rfl (.tmp _ _ (.tmp _ _ (.tmp _ _ .nil))) rfl rfl
    · have h := cond_f hb6 h
      refine ht_skip ?_
      refine pt_then ?_
      refine ht_seq ?_
      refine ht_seq ?_
      obtain ⟨v7, hv7, h⟩ := bind_some h
      obtain ⟨v8, hv8, h⟩ := bind_some h
      refine ht_seqR hn (El := [_, _, _, _, (30, .v (.int .i64 at_)), (31, .v (.int .i64 n)), (32, .v (.int .i64 v7)), (33, .fl .shr 1 (List.map (Value.int .u8) b)), (34, .v (.int .i64 (b.length : Int))), (35, .v (.int .i64 v8)), (36, .v (.bool ((decide (v8 < v7)))))]) (init := [0, 1, 2, 3]) (fin := [0, 1, 2, 10]) (sps := [⟨[1], [], [4], [(.slot 30)]⟩, ⟨[2], [], [5], [(.slot 31)]⟩, ⟨[4, 5], [], [6], [(.slot 32)]⟩, ⟨[0], [], [7], [(.slot 33)]⟩, ⟨[7], [], [8], [(.slot 34)]⟩, ⟨[8], [], [9], [(.slot 35)]⟩, ⟨[6, 9], [], [10], [(.slot 36)]⟩]) (es' := [(_, _), (_, _), (_, _), (36, .v (.bool ((decide (v8 < v7)))))]) (by kernel_rfl) rfl rfl
        ⟨st_plain rfl (op_move _ _ _ _ rfl rfl),
          st_plain rfl (op_move _ _ _ _ rfl rfl),
          st_plain rfl (op_bin _ _ _ _ _ rfl rfl (ibind (f := Value.int .i64) (Option.some.inj hv7))),
          st_plain rfl (op_move _ _ _ _ rfl rfl),
          st_plain rfl (op_len_fl _ _ _ Try.underlying22 rfl (by decide) (map_len _)),
          st_plain rfl (op_bin _ _ _ _ _ rfl rfl (ibind (f := Value.int .i64) (Option.some.inj hv8))),
          st_plain rfl (op_bin _ _ _ _ _ rfl rfl rfl),
          trivial⟩ ?_
      refine pt_then ?_
      refine ht_cond _ rfl (fun hb9 => ?_) (fun hb9 => ?_)
      · have h := cond_t hb9 h
        refine ht_seq ?_
        refine ht_seqR hn (El := [_, _, _, _, (6, .v (.int .i64 0)), (7, .v (.int .i64 0)), (8, .v (.int .i64 3))]) (init := [0, 1, 2, 3]) (fin := [4, 5, 6]) (sps := [⟨[], [], [4], [(.slot 6)]⟩, ⟨[], [], [5], [(.slot 7)]⟩, ⟨[], [], [6], [(.slot 8)]⟩]) (es' := [(6, .v (.int .i64 0)), (7, .v (.int .i64 0)), (8, .v (.int .i64 3))]) (by kernel_rfl) rfl rfl
          ⟨st_plain rfl (op_assign _ _ _ _ rfl rfl),
            st_plain rfl (op_assign _ _ _ _ rfl rfl),
            st_plain rfl (op_assign _ _ _ _ rfl rfl),
            trivial⟩ ?_
        refine pt_then ?_
        refine ht_ret ?_
        refine pt_r_then ?_
        obtain rfl := Option.some.inj h
        exact pt_ret hio rfl (.tmp _ _ (.tmp _ _ (.tmp _ _ .nil))) rfl rfl
      · have h := cond_f hb9 h
        refine ht_skip ?_
        refine pt_then ?_
        refine ht_seq ?_
        refine ht_seqR hn (El := [_, _, _, _, (9, .v (.int .u32 0))]) (init := [0, 1, 2, 3]) (fin := [0, 1, 2, 4]) (sps := [⟨[], [], [4], [(.slot 9)]⟩]) (es' := [(_, _), (_, _), (_, _), (9, .v (.int .u32 0))]) (by kernel_rfl) rfl rfl
          ⟨st_plain rfl (op_assign _ _ _ _ rfl rfl),
            trivial⟩ ?_
        refine pt_then ?_
        refine ht_seq ?_
        obtain ⟨v10, hv10, h⟩ := bind_some h
        refine ht_seqR hn (El := [_, _, _, _, (37, .v (.int .i64 at_)), (38, .v (.int .i64 v10)), (10, .v (.int .i64 v10))]) (init := [0, 1, 2, 3]) (fin := [0, 1, 2, 3, 6]) (sps := [⟨[1], [], [4], [(.slot 37)]⟩, ⟨[4], [], [5], [(.slot 38)]⟩, ⟨[5], [], [6], [(.slot 10)]⟩]) (es' := [(_, _), (_, _), (_, _), (_, _), (10, .v (.int .i64 v10))]) (by kernel_rfl) rfl rfl
          ⟨st_plain rfl (op_move _ _ _ _ rfl rfl),
            st_plain rfl (op_bin _ _ _ _ _ rfl rfl (quo_ok hv10)),
            st_plain rfl (op_assign _ _ _ _ rfl rfl),
            trivial⟩ ?_
        refine pt_then ?_
        refine ht_seq ?_
        refine ht_seq ?_
        refine ht_seqR hn (El := [_, _, _, _, _, (39, .v (.int .i64 v10)), (11, .v (.int .i64 v10))]) (init := [0, 1, 2, 3, 4]) (fin := [0, 1, 2, 3, 4, 6]) (sps := [⟨[4], [], [5], [(.slot 39)]⟩, ⟨[5], [], [6], [(.slot 11)]⟩]) (es' := [(_, _), (_, _), (_, _), (_, _), (_, _), (11, .v (.int .i64 v10))]) (by kernel_rfl) rfl rfl
          ⟨st_plain rfl (op_move _ _ _ _ rfl rfl),
            st_plain rfl (op_assign _ _ _ _ rfl rfl),
            trivial⟩ ?_
        refine pt_then ?_
        refine ht_loopS h (fun ((s25, s26) : Int × Int) => [(0, .fl .shr 1 (List.map (Value.int .u8) b)), (1, .v (.int .i64 at_)), (2, .v (.int .i64 n)), (9, .v (.int .u32 s25)), (10, .v (.int .i64 v10)), (11, .v (.int .i64 s26))]) (fun (s28 : Int) => [(1, .v (.int .i64 at_)), (2, .v (.int .i64 n)), (9, .v (.int .u32 s28))]) ?_ ?_
        · rintro s28 h
          refine pt_then ?_
          refine ht_seq ?_
          obtain ⟨v36, hv36, h⟩ := bind_some h
          obtain ⟨v37, hv37, h⟩ := bind_some h
          refine ht_seqR hn (El := [_, _, _, (60, .v (.int .i64 n)), (61, .v (.int .u32 v36)), (62, .v (.int .u32 v37)), (12, .v (.int .u32 v37))]) (init := [0, 1, 2]) (fin := [0, 1, 2, 6]) (sps := [⟨[1], [], [3], [(.slot 60)]⟩, ⟨[3], [], [4], [(.slot 61)]⟩, ⟨[4], [], [5], [(.slot 62)]⟩, ⟨[5], [], [6], [(.slot 12)]⟩]) (es' := [(_, _), (_, _), (_, _), (12, .v (.int .u32 v37))]) (by kernel_rfl) rfl rfl
            ⟨st_plain rfl (op_move _ _ _ _ rfl rfl),
              st_plain rfl (op_bin _ _ _ _ _ rfl rfl (shl_ok hv36)),
              st_plain rfl (op_bin _ _ _ _ _ rfl rfl (ibind (f := Value.int .u32) (Option.some.inj hv37))),
              st_plain rfl (op_assign _ _ _ _ rfl rfl),
              trivial⟩ ?_
          refine pt_then ?_
          refine ht_seq ?_
          obtain ⟨v38, hv38, h⟩ := bind_some h
          obtain ⟨v39, hv39, h⟩ := bind_some h
          obtain ⟨v40, hv40, h⟩ := bind_some h
          obtain ⟨v41, hv41, h⟩ := bind_some h
          obtain ⟨v42, hv42, h⟩ := bind_some h
          refine ht_seqR hn (El := (_ :: _ :: _ :: _ :: (63, .v (.int .u32 s28)) :: (64, .v (.int .i64 at_)) :: (65, .v (.int .i64 v38)) :: (66, .v (.int .u32 v39)) :: (67, .v (.int .u32 v37)) :: (68, .v (.int .u32 v40)) :: (69, .v (.int .i64 v41)) :: (70, .v (.int .i64 at_)) :: (71, .v (.int .i64 n)) :: (72, .v (.int .i64 v42)) :: (6, .v (.int .i64 v41)) :: (7, .v (.int .i64 v42)) :: (8, .v (.int .i64 0)) :: [])) (init := [0, 1, 2, 3]) (fin := [14, 15, 16]) (sps := [⟨[2], [], [4], [(.slot 63)]⟩, ⟨[0], [], [5], [(.slot 64)]⟩, ⟨[5], [], [6], [(.slot 65)]⟩, ⟨[4, 6], [], [7], [(.slot 66)]⟩, ⟨[3], [], [8], [(.slot 67)]⟩, ⟨[7, 8], [], [9], [(.slot 68)]⟩, ⟨[9], [], [10], [(.slot 69)]⟩, ⟨[0], [], [11], [(.slot 70)]⟩, ⟨[1], [], [12], [(.slot 71)]⟩, ⟨[11, 12], [], [13], [(.slot 72)]⟩, ⟨[10], [], [14], [(.slot 6)]⟩, ⟨[13], [], [15], [(.slot 7)]⟩, ⟨[], [], [16], [(.slot 8)]⟩]) (es' := [(6, .v (.int .i64 v41)), (7, .v (.int .i64 v42)), (8, .v (.int .i64 0))]) (by kernel_rfl) rfl rfl
            ⟨st_plain rfl (op_move _ _ _ _ rfl rfl),
              st_plain rfl (op_move _ _ _ _ rfl rfl),
              st_plain rfl (op_bin _ _ _ _ _ rfl rfl (rem_ok hv38)),
              st_plain rfl (op_bin _ _ _ _ _ rfl rfl (shr_ok hv39)),
              st_plain rfl (op_move _ _ _ _ rfl rfl),
              st_plain rfl (op_bin _ _ _ _ _ rfl rfl (ibind (f := Value.int .u32) (Option.some.inj hv40))),
              st_plain rfl ((Option.some.inj hv41) ▸ op_conv _ _ _ Try.underlying52 Try.underlying3 rfl),
              st_plain rfl (op_move _ _ _ _ rfl rfl),
              st_plain rfl (op_move _ _ _ _ rfl rfl),
              st_plain rfl (op_bin _ _ _ _ _ rfl rfl (ibind (f := Value.int .i64) (Option.some.inj hv42))),
              st_plain rfl (op_assign _ _ _ _ rfl rfl),
              st_plain rfl (op_assign _ _ _ _ rfl rfl),
              st_plain rfl (op_assign _ _ _ _ rfl rfl),
              trivial⟩ ?_
          refine pt_then ?_
          refine ht_ret ?_
          obtain rfl := Option.some.inj h
          exact pt_ret hio rfl (.tmp _ _ (.tmp _ _ (.tmp _ _ .nil))) rfl rfl
        · rintro u29 hl30 hr31 ⟨s25, s26⟩ rr34 h ho32
          refine ht_seq ?_
          refine ht_seq ?_
          obtain ⟨v11, hv11, h⟩ := bind_some h
          obtain ⟨v12, hv12, h⟩ := bind_some h
          refine ht_seqR hn (El := [_, _, _, _, _, _, (40, .v (.int .i64 s26)), (41, .v (.int .i64 at_)), (42, .v (.int .i64 n)), (43, .v (.int .i64 v11)), (44, .v (.int .i64 v12)), (45, .v (.bool ((decide (s26 < v12)))))]) (init := [0, 1, 2, 3, 4, 5]) (fin := [0, 1, 2, 3, 4, 5, 11]) (sps := [⟨[5], [], [6], [(.slot 40)]⟩, ⟨[1], [], [7], [(.slot 41)]⟩, ⟨[2], [], [8], [(.slot 42)]⟩, ⟨[7, 8], [], [9], [(.slot 43)]⟩, ⟨[9], [], [10], [(.slot 44)]⟩, ⟨[6, 10], [], [11], [(.slot 45)]⟩]) (es' := [(_, _), (_, _), (_, _), (_, _), (_, _), (_, _), (45, .v (.bool ((decide (s26 < v12)))))]) (by kernel_rfl) rfl rfl
            ⟨st_plain rfl (op_move _ _ _ _ rfl rfl),
              st_plain rfl (op_move _ _ _ _ rfl rfl),
              st_plain rfl (op_move _ _ _ _ rfl rfl),
              st_plain rfl (op_bin _ _ _ _ _ rfl rfl (ibind (f := Value.int .i64) (Option.some.inj hv11))),
              st_plain rfl (op_call _ _ 28 _ _ rfl Try.call28 rfl (ok_bits_bytesFor v11 _ hv12) rfl rfl),
              st_plain rfl (op_bin _ _ _ _ _ rfl rfl rfl),
              trivial⟩ ?_
          refine pt_then ?_
          refine ht_cond _ rfl (fun hb35 => ?_) (fun hb35 => ?_)
          · have h := cond_t hb35 h
            refine ht_skip ?_
            refine pt_then ?_
            refine ht_seq ?_
            refine ht_block ?_
            obtain ⟨v14, hv14, h⟩ := bind_some h
            obtain ⟨v15, hv15, h⟩ := bind_some h
            obtain ⟨v16, hv16, h⟩ := bind_some h
            obtain ⟨v17, hv17, h⟩ := bind_some h
            obtain ⟨v18, hv18, h⟩ := bind_some h
            obtain ⟨v19, hv19, h⟩ := bind_some h
            obtain ⟨v20, hv20, h⟩ := bind_some h
            refine ht_seqR hn (El := (_ :: _ :: _ :: _ :: _ :: _ :: _ :: (48, .v (.int .u32 s25)) :: (49, .fl .shr 1 (List.map (Value.int .u8) b)) :: (50, .v (.int .i64 s26)) :: (51, .eref (.slot 49) (v14 * 1)) :: (52, .v (.int .u8 v15)) :: (53, .v (.int .u32 v16)) :: (54, .v (.int .i64 s26)) :: (55, .v (.int .i64 v10)) :: (56, .v (.int .i64 v17)) :: (57, .v (.int .i64 v18)) :: (58, .v (.int .u32 v19)) :: (59, .v (.int .u32 v20)) :: (9, .v (.int .u32 v20)) :: [])) (init := [0, 1, 2, 3, 4, 5, 6]) (fin := [0, 1, 2, 4, 5, 19]) (sps := [⟨[3], [], [7], [(.slot 48)]⟩, ⟨[0], [], [8], [(.slot 49)]⟩, ⟨[5], [], [9], [(.slot 50)]⟩, ⟨[8, 9], [], [10], [(.slot 51)]⟩, ⟨[10, 8], [], [11], [(.slot 52)]⟩, ⟨[11], [], [12], [(.slot 53)]⟩, ⟨[5], [], [13], [(.slot 54)]⟩, ⟨[4], [], [14], [(.slot 55)]⟩, ⟨[13, 14], [], [15], [(.slot 56)]⟩, ⟨[15], [], [16], [(.slot 57)]⟩, ⟨[12, 16], [], [17], [(.slot 58)]⟩, ⟨[7, 17], [], [18], [(.slot 59)]⟩, ⟨[18], [3], [19], [(.slot 9)]⟩]) (es' := [(_, _), (_, _), (_, _), (_, _), (_, _), (9, .v (.int .u32 v20))]) (by kernel_rfl) rfl rfl
              ⟨st_plain rfl (op_move _ _ _ _ rfl rfl),
                st_plain rfl (op_move _ _ _ _ rfl rfl),
                st_plain rfl (op_move _ _ _ _ rfl rfl),
                st_plain rfl (op_ix _ _ _ _ _ _ _ _ Try.underlying22 sz5 (by decide) rfl rfl rfl (ix_ok hv14).1 (map_lt (ix_ok hv14).2) rfl),
                st_plain rfl (op_load_e _ _ _ _ _ _ Try.underlying5 rfl rfl rfl (map_get hv15)),
                st_plain rfl ((Option.some.inj hv16) ▸ op_conv _ _ _ Try.underlying5 Try.underlying52 rfl),
                st_plain rfl (op_move _ _ _ _ rfl rfl),
                st_plain rfl (op_move _ _ _ _ rfl rfl),
                st_plain rfl (op_bin _ _ _ _ _ rfl rfl (ibind (f := Value.int .i64) (Option.some.inj hv17))),
                st_plain rfl (op_bin _ _ _ _ _ rfl rfl (ibind (f := Value.int .i64) (Option.some.inj hv18))),
                st_plain rfl (op_bin _ _ _ _ _ rfl rfl (shl_ok hv19)),
                st_plain rfl (op_bin _ _ _ _ _ rfl rfl (ibind (f := Value.int .u32) (Option.some.inj hv20))),
                st_plain rfl (LOp.drop [_] (op_assign _ _ _ _ rfl rfl)),
                trivial⟩ ?_
            refine pt_inb ?_
            refine pt_then ?_
            obtain ⟨v21, hv21, h⟩ := bind_some h
            refine ht_seqR hn (El := [_, _, _, _, _, _, (46, .v (.int .i64 s26)), (47, .v (.int .i64 v21)), (11, .v (.int .i64 v21))]) (init := [0, 1, 2, 3, 4, 5]) (fin := [0, 1, 2, 3, 5, 8]) (sps := [⟨[4], [], [6], [(.slot 46)]⟩, ⟨[6], [], [7], [(.slot 47)]⟩, ⟨[7], [4], [8], [(.slot 11)]⟩]) (es' := [(_, _), (_, _), (_, _), (_, _), (_, _), (11, .v (.int .i64 v21))]) (by kernel_rfl) rfl rfl
              ⟨st_plain rfl (op_move _ _ _ _ rfl rfl),
                st_plain rfl (op_bin _ _ _ _ _ rfl rfl (ibind (f := Value.int .i64) (Option.some.inj hv21))),
                st_plain rfl (LOp.drop [_] (op_assign _ _ _ _ rfl rfl)),
                trivial⟩ ?_
            refine pt_pick [0, 1, 2, 4, 3, 5] (by kernel_rfl) (es' := [(_, _), (_, _), (_, _), (_, _), (_, _), (_, _)]) rfl ?_
            exact pt_next _ (Option.some.inj h).symm rfl
          · have h := cond_f hb35 h
            refine ht_exit ?_
            refine pt_x_then ?_
            refine pt_x_then ?_
            refine pt_x_in ?_
            refine pt_pick [1, 2, 3] (by kernel_rfl) (es' := [(_, _), (_, _), (_, _)]) rfl ?_
            exact hl30 _ (ho32 _ (Option.some.inj h).symm).symm
  · intro u3 h hl4 hr5
    refine cond_some h (fun hg1_2 h => ?_) (fun hg1_2 h => ?_)
    · refine ht_seqR hn (El := (_ :: _ :: _ :: (13, .v (.int .i64 n)) :: (14, .v (.bool ((decide (n < 0))))) :: (15, .v (.bool true)) :: (16, .v undef) :: (17, .v undef) :: (18, .v (.bool true)) :: (19, .v (.bool true)) :: (20, .v undef) :: (21, .v undef) :: (22, .v (.bool true)) :: (23, .v (.bool true)) :: (24, .v undef) :: (25, .v undef) :: (26, .v undef) :: (27, .v undef) :: (28, .v undef) :: (29, .v (.bool true)) :: [])) (init := [0, 1, 2]) (fin := [0, 1, 2, 19]) (sps := (⟨[2], [], [3], [(.slot 13)]⟩ :: ⟨[3], [], [4], [(.slot 14)]⟩ :: ⟨[4], [], [5], [(.slot 15)]⟩ :: ⟨[5], [], [6], [(.slot 16)]⟩ :: ⟨[5], [], [7], [(.slot 17)]⟩ :: ⟨[5], [], [8], [(.slot 18)]⟩ :: ⟨[8], [], [9], [(.slot 19)]⟩ :: ⟨[9], [], [10], [(.slot 20)]⟩ :: ⟨[9], [], [11], [(.slot 21)]⟩ :: ⟨[9], [], [12], [(.slot 22)]⟩ :: ⟨[12], [], [13], [(.slot 23)]⟩ :: ⟨[13], [], [14], [(.slot 24)]⟩ :: ⟨[13], [], [15], [(.slot 25)]⟩ :: ⟨[13], [], [16], [(.slot 26)]⟩ :: ⟨[13], [], [17], [(.slot 27)]⟩ :: ⟨[13], [], [18], [(.slot 28)]⟩ :: ⟨[13], [], [19], [(.slot 29)]⟩ :: [])) (es' := [(_, _), (_, _), (_, _), (29, .v (.bool true))]) (by kernel_rfl) rfl rfl
        ⟨st_plain rfl (op_move _ _ _ _ rfl rfl),
          st_plain rfl (op_bin _ _ _ _ _ rfl rfl rfl),
          st_plain rfl (op_move _ _ _ _ (congrArg (fun b => AV.v (Value.bool b)) hg1_2) rfl),
          st_skip 2 15 _ false rfl rfl rfl rfl (List.Mem.head _),
          st_skip 2 15 _ false rfl rfl rfl rfl (List.Mem.head _),
          st_plain rfl (op_pick _ _ true _ rfl rfl),
          st_plain rfl (op_move _ _ _ _ rfl rfl),
          st_skip 6 19 _ false rfl rfl rfl rfl (List.Mem.head _),
          st_skip 6 19 _ false rfl rfl rfl rfl (List.Mem.head _),
          st_plain rfl (op_pick _ _ true _ rfl rfl),
          st_plain rfl (op_move _ _ _ _ rfl rfl),
          st_skip 10 23 _ false rfl rfl rfl rfl (List.Mem.head _),
          st_skip 10 23 _ false rfl rfl rfl rfl (List.Mem.head _),
          st_skip 10 23 _ false rfl rfl rfl rfl (List.Mem.head _),
          st_skip 10 23 _ false rfl rfl rfl rfl (List.Mem.head _),
          st_skip 10 23 _ false rfl rfl rfl rfl (List.Mem.head _),
          st_plain rfl (op_pick _ _ true _ rfl rfl),
          trivial⟩ ?_
      exact hl4 _ (Option.some.inj h).symm
    · refine cond_some h (fun hg1_6 h => ?_) (fun hg1_6 h => ?_)
      · refine ht_seqR hn (El := (_ :: _ :: _ :: (13, .v (.int .i64 n)) :: (14, .v (.bool ((decide (n < 0))))) :: (15, .v (.bool false)) :: (16, .v (.int .i64 n)) :: (17, .v (.bool ((decide (24 < n))))) :: (18, .v (.bool ((decide (24 < n))))) :: (19, .v (.bool true)) :: (20, .v undef) :: (21, .v undef) :: (22, .v (.bool true)) :: (23, .v (.bool true)) :: (24, .v undef) :: (25, .v undef) :: (26, .v undef) :: (27, .v undef) :: (28, .v undef) :: (29, .v (.bool true)) :: [])) (init := [0, 1, 2]) (fin := [0, 1, 2, 19]) (sps := (⟨[2], [], [3], [(.slot 13)]⟩ :: ⟨[3], [], [4], [(.slot 14)]⟩ :: ⟨[4], [], [5], [(.slot 15)]⟩ :: ⟨[5, 2], [], [6], [(.slot 16)]⟩ :: ⟨[5, 6], [], [7], [(.slot 17)]⟩ :: ⟨[5, 7], [], [8], [(.slot 18)]⟩ :: ⟨[8], [], [9], [(.slot 19)]⟩ :: ⟨[9], [], [10], [(.slot 20)]⟩ :: ⟨[9], [], [11], [(.slot 21)]⟩ :: ⟨[9], [], [12], [(.slot 22)]⟩ :: ⟨[12], [], [13], [(.slot 23)]⟩ :: ⟨[13], [], [14], [(.slot 24)]⟩ :: ⟨[13], [], [15], [(.slot 25)]⟩ :: ⟨[13], [], [16], [(.slot 26)]⟩ :: ⟨[13], [], [17], [(.slot 27)]⟩ :: ⟨[13], [], [18], [(.slot 28)]⟩ :: ⟨[13], [], [19], [(.slot 29)]⟩ :: [])) (es' := [(_, _), (_, _), (_, _), (29, .v (.bool true))]) (by kernel_rfl) rfl rfl
          ⟨st_plain rfl (op_move _ _ _ _ rfl rfl),
            st_plain rfl (op_bin _ _ _ _ _ rfl rfl rfl),
            st_plain rfl (op_move _ _ _ _ (congrArg (fun b => AV.v (Value.bool b)) hg1_2) rfl),
            st_run 2 15 false rfl rfl rfl (List.Mem.head _) (op_move _ _ _ _ rfl rfl),
            st_run 2 15 false rfl rfl rfl (List.Mem.head _) (op_bin _ _ _ _ _ rfl rfl rfl),
            st_plain rfl (op_pick _ _ false _ rfl rfl),
            st_plain rfl (op_move _ _ _ _ (congrArg (fun b => AV.v (Value.bool b)) hg1_6) rfl),
            st_skip 6 19 _ false rfl rfl rfl rfl (List.Mem.head _),
            st_skip 6 19 _ false rfl rfl rfl rfl (List.Mem.head _),
            st_plain rfl (op_pick _ _ true _ rfl rfl),
            st_plain rfl (op_move _ _ _ _ rfl rfl),
            st_skip 10 23 _ false rfl rfl rfl rfl (List.Mem.head _),
            st_skip 10 23 _ false rfl rfl rfl rfl (List.Mem.head _),
            st_skip 10 23 _ false rfl rfl rfl rfl (List.Mem.head _),
            st_skip 10 23 _ false rfl rfl rfl rfl (List.Mem.head _),
            st_skip 10 23 _ false rfl rfl rfl rfl (List.Mem.head _),
            st_plain rfl (op_pick _ _ true _ rfl rfl),
            trivial⟩ ?_
        exact hl4 _ (Option.some.inj h).symm
      · refine cond_some h (fun hg1_10 h => ?_) (fun hg1_10 h => ?_)
        · refine ht_seqR hn (El := (_ :: _ :: _ :: (13, .v (.int .i64 n)) :: (14, .v (.bool ((decide (n < 0))))) :: (15, .v (.bool false)) :: (16, .v (.int .i64 n)) :: (17, .v (.bool ((decide (24 < n))))) :: (18, .v (.bool ((decide (24 < n))))) :: (19, .v (.bool false)) :: (20, .v (.int .i64 at_)) :: (21, .v (.bool ((decide (at_ < 0))))) :: (22, .v (.bool ((decide (at_ < 0))))) :: (23, .v (.bool true)) :: (24, .v undef) :: (25, .v undef) :: (26, .v undef) :: (27, .v undef) :: (28, .v undef) :: (29, .v (.bool true)) :: [])) (init := [0, 1, 2]) (fin := [0, 1, 2, 19]) (sps := (⟨[2], [], [3], [(.slot 13)]⟩ :: ⟨[3], [], [4], [(.slot 14)]⟩ :: ⟨[4], [], [5], [(.slot 15)]⟩ :: ⟨[5, 2], [], [6], [(.slot 16)]⟩ :: ⟨[5, 6], [], [7], [(.slot 17)]⟩ :: ⟨[5, 7], [], [8], [(.slot 18)]⟩ :: ⟨[8], [], [9], [(.slot 19)]⟩ :: ⟨[9, 1], [], [10], [(.slot 20)]⟩ :: ⟨[9, 10], [], [11], [(.slot 21)]⟩ :: ⟨[9, 11], [], [12], [(.slot 22)]⟩ :: ⟨[12], [], [13], [(.slot 23)]⟩ :: ⟨[13], [], [14], [(.slot 24)]⟩ :: ⟨[13], [], [15], [(.slot 25)]⟩ :: ⟨[13], [], [16], [(.slot 26)]⟩ :: ⟨[13], [], [17], [(.slot 27)]⟩ :: ⟨[13], [], [18], [(.slot 28)]⟩ :: ⟨[13], [], [19], [(.slot 29)]⟩ :: [])) (es' := [(_, _), (_, _), (_, _), (29, .v (.bool true))]) (by kernel_rfl) rfl rfl
            ⟨st_plain rfl (op_move _ _ _ _ rfl rfl),
              st_plain rfl (op_bin _ _ _ _ _ rfl rfl rfl),
              st_plain rfl (op_move _ _ _ _ (congrArg (fun b => AV.v (Value.bool b)) hg1_2) rfl),
              st_run 2 15 false rfl rfl rfl (List.Mem.head _) (op_move _ _ _ _ rfl rfl),
              st_run 2 15 false rfl rfl rfl (List.Mem.head _) (op_bin _ _ _ _ _ rfl rfl rfl),
              st_plain rfl (op_pick _ _ false _ rfl rfl),
              st_plain rfl (op_move _ _ _ _ (congrArg (fun b => AV.v (Value.bool b)) hg1_6) rfl),
              st_run 6 19 false rfl rfl rfl (List.Mem.head _) (op_move _ _ _ _ rfl rfl),
              st_run 6 19 false rfl rfl rfl (List.Mem.head _) (op_bin _ _ _ _ _ rfl rfl rfl),
              st_plain rfl (op_pick _ _ false _ rfl rfl),
              st_plain rfl (op_move _ _ _ _ (congrArg (fun b => AV.v (Value.bool b)) hg1_10) rfl),
              st_skip 10 23 _ false rfl rfl rfl rfl (List.Mem.head _),
              st_skip 10 23 _ false rfl rfl rfl rfl (List.Mem.head _),
              st_skip 10 23 _ false rfl rfl rfl rfl (List.Mem.head _),
              st_skip 10 23 _ false rfl rfl rfl rfl (List.Mem.head _),
              st_skip 10 23 _ false rfl rfl rfl rfl (List.Mem.head _),
              st_plain rfl (op_pick _ _ true _ rfl rfl),
              trivial⟩ ?_
          exact hl4 _ (Option.some.inj h).symm
        · obtain ⟨v1, hv1, h⟩ := bind_some h
          refine ht_seqR hn (El := (_ :: _ :: _ :: (13, .v (.int .i64 n)) :: (14, .v (.bool ((decide (n < 0))))) :: (15, .v (.bool false)) :: (16, .v (.int .i64 n)) :: (17, .v (.bool ((decide (24 < n))))) :: (18, .v (.bool ((decide (24 < n))))) :: (19, .v (.bool false)) :: (20, .v (.int .i64 at_)) :: (21, .v (.bool ((decide (at_ < 0))))) :: (22, .v (.bool ((decide (at_ < 0))))) :: (23, .v (.bool false)) :: (24, .v (.int .i64 at_)) :: (25, .fl .shr 1 (List.map (Value.int .u8) b)) :: (26, .v (.int .i64 (b.length : Int))) :: (27, .v (.int .i64 v1)) :: (28, .v (.bool ((decide (v1 < at_))))) :: (29, .v (.bool ((decide (v1 < at_))))) :: [])) (init := [0, 1, 2]) (fin := [0, 1, 2, 19]) (sps := (⟨[2], [], [3], [(.slot 13)]⟩ :: ⟨[3], [], [4], [(.slot 14)]⟩ :: ⟨[4], [], [5], [(.slot 15)]⟩ :: ⟨[5, 2], [], [6], [(.slot 16)]⟩ :: ⟨[5, 6], [], [7], [(.slot 17)]⟩ :: ⟨[5, 7], [], [8], [(.slot 18)]⟩ :: ⟨[8], [], [9], [(.slot 19)]⟩ :: ⟨[9, 1], [], [10], [(.slot 20)]⟩ :: ⟨[9, 10], [], [11], [(.slot 21)]⟩ :: ⟨[9, 11], [], [12], [(.slot 22)]⟩ :: ⟨[12], [], [13], [(.slot 23)]⟩ :: ⟨[13, 1], [], [14], [(.slot 24)]⟩ :: ⟨[13, 0], [], [15], [(.slot 25)]⟩ :: ⟨[13, 15], [], [16], [(.slot 26)]⟩ :: ⟨[13, 16], [], [17], [(.slot 27)]⟩ :: ⟨[13, 14, 17], [], [18], [(.slot 28)]⟩ :: ⟨[13, 18], [], [19], [(.slot 29)]⟩ :: [])) (es' := [(_, _), (_, _), (_, _), (29, .v (.bool ((decide (v1 < at_)))))]) (by kernel_rfl) rfl rfl
            ⟨st_plain rfl (op_move _ _ _ _ rfl rfl),
              st_plain rfl (op_bin _ _ _ _ _ rfl rfl rfl),
              st_plain rfl (op_move _ _ _ _ (congrArg (fun b => AV.v (Value.bool b)) hg1_2) rfl),
              st_run 2 15 false rfl rfl rfl (List.Mem.head _) (op_move _ _ _ _ rfl rfl),
              st_run 2 15 false rfl rfl rfl (List.Mem.head _) (op_bin _ _ _ _ _ rfl rfl rfl),
              st_plain rfl (op_pick _ _ false _ rfl rfl),
              st_plain rfl (op_move _ _ _ _ (congrArg (fun b => AV.v (Value.bool b)) hg1_6) rfl),
              st_run 6 19 false rfl rfl rfl (List.Mem.head _) (op_move _ _ _ _ rfl rfl),
              st_run 6 19 false rfl rfl rfl (List.Mem.head _) (op_bin _ _ _ _ _ rfl rfl rfl),
              st_plain rfl (op_pick _ _ false _ rfl rfl),
              st_plain rfl (op_move _ _ _ _ (congrArg (fun b => AV.v (Value.bool b)) hg1_10) rfl),
              st_run 10 23 false rfl rfl rfl (List.Mem.head _) (op_move _ _ _ _ rfl rfl),
              st_run 10 23 false rfl rfl rfl (List.Mem.head _) (op_move _ _ _ _ rfl rfl),
              st_run 10 23 false rfl rfl rfl (List.Mem.head _) (op_len_fl _ _ _ Try.underlying22 rfl (by decide) (map_len _)),
              st_run 10 23 false rfl rfl rfl (List.Mem.head _) (op_bin _ _ _ _ _ rfl rfl (ibind (f := Value.int .i64) (Option.some.inj hv1))),
              st_run 10 23 false rfl rfl rfl (List.Mem.head _) (op_bin _ _ _ _ _ rfl rfl rfl),
              st_plain rfl (op_pick _ _ false _ rfl rfl),
              trivial⟩ ?_
          exact hl4 _ (Option.some.inj h).symm

set_option maxHeartbeats 1000000 in
theorem ok_wherryref01_Get (b : (List Int)) (at_ : Int) (n : Int) (r : (Int × Int × Int)) (h : Sh.wherryref01_Get b at_ n = some r) : FnOK Try.prog 19 [.fl .shr 1 (List.map (Value.int .u8) b), .v (.int .i64 at_), .v (.int .i64 n)] (.tup [.v (.int .i64 r.1), .v (.int .i64 r.2.1), .v (.int .i64 r.2.2)]) := by
  unfold Sh.wherryref01_Get at h
  refine fn_ok Try.func19 rfl (Nat.le_of_ble_eq_true rfl) rfl rfl fun g0 hn hio => ?_
  refine ht_seq ?_
  refine ht_seqR hn (El := [_, _, _, (6, .v (.int .i64 0)), (7, .v (.int .i64 0)), (8, .v (.int .i64 0))]) (init := [0, 1, 2]) (fin := [0, 1, 2]) (sps := [⟨[], [], [3], [(.slot 6)]⟩, ⟨[], [], [4], [(.slot 7)]⟩, ⟨[], [], [5], [(.slot 8)]⟩]) (es' := [(_, _), (_, _), (_, _)]) (by kernel_rfl) rfl rfl
    ⟨st_plain rfl (op_assign _ _ _ _ rfl rfl),
      st_plain rfl (op_assign _ _ _ _ rfl rfl),
      st_plain rfl (op_assign _ _ _ _ rfl rfl),
      trivial⟩ ?_
  refine pt_then ?_
  refine ht_seq ?_
  refine ht_seq ?_
  refine ht_joinS h (fun (s4 : Bool) => [(0, .fl .shr 1 (List.map (Value.int .u8) b)), (1, .v (.int .i64 at_)), (2, .v (.int .i64 n)), (21, .v (.bool s4))]) ?_ ?_
  · rintro s4 h
    refine pt_then ?_
    refine ht_cond _ rfl (fun hb8 => ?_) (fun hb8 => ?_)
    · have h := cond_t hb8 h
      refine ht_seq ?_
      refine ht_seqR hn (El := [_, _, _, _, (6, .v (.int .i64 0)), (7, .v (.int .i64 0)), (8, .v (.int .i64 1))]) (init := [0, 1, 2, 3]) (fin := [4, 5, 6]) (sps := [⟨[], [], [4], [(.slot 6)]⟩, ⟨[], [], [5], [(.slot 7)]⟩, ⟨[], [], [6], [(.slot 8)]⟩]) (es' := [(6, .v (.int .i64 0)), (7, .v (.int .i64 0)), (8, .v (.int .i64 1))]) (by kernel_rfl) rfl rfl
        ⟨st_plain rfl (op_assign _ _ _ _ rfl rfl),
          st_plain rfl (op_assign _ _ _ _ rfl rfl),
          st_plain rfl (op_assign _ _ _ _ rfl rfl),
          trivial⟩ ?_
      refine pt_then ?_
      refine ht_ret ?_
      refine pt_r_then ?_
      obtain rfl := Option.some.inj h
      exact pt_ret hio rfl (.tmp _ _ (.tmp _ _ (.tmp _ _ .nil))) rfl rfl
    · have h := cond_f hb8 h
      refine ht_skip ?_
      refine pt_then ?_
      refine ht_seq ?_
      refine ht_seq ?_
      obtain ⟨v9, hv9, h⟩ := bind_some h
      obtain ⟨v10, hv10, h⟩ := bind_some h
      refine ht_seqR hn (El := [_, _, _, _, (22, .fl .shr 1 (List.map (Value.int .u8) b)), (23, .v (.int .i64 (b.length : Int))), (24, .v (.int .i64 v9)), (25, .v (.int .i64 at_)), (26, .v (.int .i64 v10)), (27, .v (.int .i64 n)), (28, .v (.bool ((decide (v10 < n)))))]) (init := [0, 1, 2, 3]) (fin := [0, 1, 2, 10]) (sps := [⟨[0], [], [4], [(.slot 22)]⟩, ⟨[4], [], [5], [(.slot 23)]⟩, ⟨[5], [], [6], [(.slot 24)]⟩, ⟨[1], [], [7], [(.slot 25)]⟩, ⟨[6, 7], [], [8], [(.slot 26)]⟩, ⟨[2], [], [9], [(.slot 27)]⟩, ⟨[8, 9], [], [10], [(.slot 28)]⟩]) (es' := [(_, _), (_, _), (_, _), (28, .v (.bool ((decide (v10 < n)))))]) (by kernel_rfl) rfl rfl
        ⟨st_plain rfl (op_move _ _ _ _ rfl rfl),
          st_plain rfl (op_len_fl _ _ _ Try.underlying22 rfl (by decide) (map_len _)),
          st_plain rfl (op_bin _ _ _ _ _ rfl rfl (ibind (f := Value.int .i64) (Option.some.inj hv9))),
          st_plain rfl (op_move _ _ _ _ rfl rfl),
          st_plain rfl (op_bin _ _ _ _ _ rfl rfl (ibind (f := Value.int .i64) (Option.some.inj hv10))),
          st_plain rfl (op_move _ _ _ _ rfl rfl),
          st_plain rfl (op_bin _ _ _ _ _ rfl rfl rfl),
          trivial⟩ ?_
      refine pt_then ?_
      refine ht_cond _ rfl (fun hb11 => ?_) (fun hb11 => ?_)
      · have h := cond_t hb11 h
        refine ht_seq ?_
        refine ht_seqR hn (El := [_, _, _, _, (6, .v (.int .i64 0)), (7, .v (.int .i64 0)), (8, .v (.int .i64 3))]) (init := [0, 1, 2, 3]) (fin := [4, 5, 6]) (sps := [⟨[], [], [4], [(.slot 6)]⟩, ⟨[], [], [5], [(.slot 7)]⟩, ⟨[], [], [6], [(.slot 8)]⟩]) (es' := [(6, .v (.int .i64 0)), (7, .v (.int .i64 0)), (8, .v (.int .i64 3))]) (by kernel_rfl) rfl rfl
          ⟨st_plain rfl (op_assign _ _ _ _ rfl rfl),
            st_plain rfl (op_assign _ _ _ _ rfl rfl),
            st_plain rfl (op_assign _ _ _ _ rfl rfl),
            trivial⟩ ?_
        refine pt_then ?_
        refine ht_ret ?_
        refine pt_r_then ?_
        obtain rfl := Option.some.inj h
        exact pt_ret hio rfl (.tmp _ _ (.tmp _ _ (.tmp _ _ .nil))) rfl rfl
      · have h := cond_f hb11 h
        refine ht_skip ?_
        refine pt_then ?_
        refine ht_seq ?_
        refine ht_seqR hn (El := [_, _, _, _, (9, .v (.int .i64 0))]) (init := [0, 1, 2, 3]) (fin := [0, 1, 2, 4]) (sps := [⟨[], [], [4], [(.slot 9)]⟩]) (es' := [(_, _), (_, _), (_, _), (9, .v (.int .i64 0))]) (by kernel_rfl) rfl rfl
          ⟨st_plain rfl (op_assign _ _ _ _ rfl rfl),
            trivial⟩ ?_
        refine pt_then ?_
        refine ht_seq ?_
        refine ht_seq ?_
        refine ht_seqR hn (El := [_, _, _, _, (10, .v (.int .i64 0))]) (init := [0, 1, 2, 3]) (fin := [0, 1, 2, 3, 4]) (sps := [⟨[], [], [4], [(.slot 10)]⟩]) (es' := [(_, _), (_, _), (_, _), (_, _), (10, .v (.int .i64 0))]) (by kernel_rfl) rfl rfl
          ⟨st_plain rfl (op_assign _ _ _ _ rfl rfl),
            trivial⟩ ?_
        refine pt_then ?_
        refine ht_loopS h (fun ((s22, s23) : Int × Int) => [(0, .fl .shr 1 (List.map (Value.int .u8) b)), (1, .v (.int .i64 at_)), (2, .v (.int .i64 n)), (9, .v (.int .i64 s22)), (10, .v (.int .i64 s23))]) (fun (s25 : Int) => [(1, .v (.int .i64 at_)), (2, .v (.int .i64 n)), (9, .v (.int .i64 s25))]) ?_ ?_
        · rintro s25 h
          refine pt_then ?_
          refine ht_seq ?_
          obtain ⟨v33, hv33, h⟩ := bind_some h
          refine ht_seqR hn (El := [_, _, _, (44, .v (.int .i64 s25)), (45, .v (.int .i64 at_)), (46, .v (.int .i64 n)), (47, .v (.int .i64 v33)), (6, .v (.int .i64 s25)), (7, .v (.int .i64 v33)), (8, .v (.int .i64 0))]) (init := [0, 1, 2]) (fin := [7, 8, 9]) (sps := [⟨[2], [], [3], [(.slot 44)]⟩, ⟨[0], [], [4], [(.slot 45)]⟩, ⟨[1], [], [5], [(.slot 46)]⟩, ⟨[4, 5], [], [6], [(.slot 47)]⟩, ⟨[3], [], [7], [(.slot 6)]⟩, ⟨[6], [], [8], [(.slot 7)]⟩, ⟨[], [], [9], [(.slot 8)]⟩]) (es' := [(6, .v (.int .i64 s25)), (7, .v (.int .i64 v33)), (8, .v (.int .i64 0))]) (by kernel_rfl) rfl rfl
            ⟨st_plain rfl (op_move _ _ _ _ rfl rfl),
              st_plain rfl (op_move _ _ _ _ rfl rfl),
              st_plain rfl (op_move _ _ _ _ rfl rfl),
              st_plain rfl (op_bin _ _ _ _ _ rfl rfl (ibind (f := Value.int .i64) (Option.some.inj hv33))),
              st_plain rfl (op_assign _ _ _ _ rfl rfl),
              st_plain rfl (op_assign _ _ _ _ rfl rfl),
              st_plain rfl (op_assign _ _ _ _ rfl rfl),
              trivial⟩ ?_
          refine pt_then ?_
          refine ht_ret ?_
          obtain rfl := Option.some.inj h
          exact pt_ret hio rfl (.tmp _ _ (.tmp _ _ (.tmp _ _ .nil))) rfl rfl
        · rintro u26 hl27 hr28 ⟨s22, s23⟩ rr31 h ho29
          refine ht_seq ?_
          refine ht_seq ?_
          refine ht_seqR hn (El := [_, _, _, _, _, (29, .v (.int .i64 s23)), (30, .v (.int .i64 n)), (31, .v (.bool ((decide (s23 < n)))))]) (init := [0, 1, 2, 3, 4]) (fin := [0, 1, 2, 3, 4, 7]) (sps := [⟨[4], [], [5], [(.slot 29)]⟩, ⟨[2], [], [6], [(.slot 30)]⟩, ⟨[5, 6], [], [7], [(.slot 31)]⟩]) (es' := [(_, _), (_, _), (_, _), (_, _), (_, _), (31, .v (.bool ((decide (s23 < n)))))]) (by kernel_rfl) rfl rfl
            ⟨st_plain rfl (op_move _ _ _ _ rfl rfl),
              st_plain rfl (op_move _ _ _ _ rfl rfl),
              st_plain rfl (op_bin _ _ _ _ _ rfl rfl rfl),
              trivial⟩ ?_
          refine pt_then ?_
          refine ht_cond _ rfl (fun hb32 => ?_) (fun hb32 => ?_)
          · have h := cond_t hb32 h
            refine ht_skip ?_
            refine pt_then ?_
            refine ht_seq ?_
            refine ht_block ?_
            obtain ⟨v13, hv13, h⟩ := bind_some h
            obtain ⟨v14, hv14, h⟩ := bind_some h
            obtain ⟨v15, hv15, h⟩ := bind_some h
            obtain ⟨v16, hv16, h⟩ := bind_some h
            obtain ⟨v17, hv17, h⟩ := bind_some h
            refine ht_seqR hn (El := (_ :: _ :: _ :: _ :: _ :: _ :: (34, .v (.int .i64 s22)) :: (35, .fl .shr 1 (List.map (Value.int .u8) b)) :: (36, .v (.int .i64 at_)) :: (37, .v (.int .i64 s23)) :: (38, .v (.int .i64 v13)) :: (39, .v (.int .i64 v14)) :: (40, .v (.int .i64 s23)) :: (41, .v (.int .u64 v15)) :: (42, .v (.int .i64 v16)) :: (43, .v (.int .i64 v17)) :: (9, .v (.int .i64 v17)) :: [])) (init := [0, 1, 2, 3, 4, 5]) (fin := [0, 1, 2, 4, 16]) (sps := [⟨[3], [], [6], [(.slot 34)]⟩, ⟨[0], [], [7], [(.slot 35)]⟩, ⟨[1], [], [8], [(.slot 36)]⟩, ⟨[4], [], [9], [(.slot 37)]⟩, ⟨[8, 9], [], [10], [(.slot 38)]⟩, ⟨[7, 10], [], [11], [(.slot 39)]⟩, ⟨[4], [], [12], [(.slot 40)]⟩, ⟨[12], [], [13], [(.slot 41)]⟩, ⟨[11, 13], [], [14], [(.slot 42)]⟩, ⟨[6, 14], [], [15], [(.slot 43)]⟩, ⟨[15], [3], [16], [(.slot 9)]⟩]) (es' := [(_, _), (_, _), (_, _), (_, _), (9, .v (.int .i64 v17))]) (by kernel_rfl) rfl rfl
              ⟨st_plain rfl (op_move _ _ _ _ rfl rfl),
                st_plain rfl (op_move _ _ _ _ rfl rfl),
                st_plain rfl (op_move _ _ _ _ rfl rfl),
                st_plain rfl (op_move _ _ _ _ rfl rfl),
                st_plain rfl (op_bin _ _ _ _ _ rfl rfl (ibind (f := Value.int .i64) (Option.some.inj hv13))),
                st_plain rfl (op_call _ _ 26 _ _ rfl Try.call26 rfl (ok_wherryref01_bit b v13 _ hv14) rfl rfl),
                st_plain rfl (op_move _ _ _ _ rfl rfl),
                st_plain rfl ((Option.some.inj hv15) ▸ op_conv _ _ _ Try.underlying3 Try.underlying43 rfl),
                st_plain rfl (op_bin _ _ _ _ _ rfl rfl (shl_ok hv16)),
                st_plain rfl (op_bin _ _ _ _ _ rfl rfl (ibind (f := Value.int .i64) (Option.some.inj hv17))),
                st_plain rfl (LOp.drop [_] (op_assign _ _ _ _ rfl rfl)),
                trivial⟩ ?_
            refine pt_inb ?_
            refine pt_then ?_
            obtain ⟨v18, hv18, h⟩ := bind_some h
            refine ht_seqR hn (El := [_, _, _, _, _, (32, .v (.int .i64 s23)), (33, .v (.int .i64 v18)), (10, .v (.int .i64 v18))]) (init := [0, 1, 2, 3, 4]) (fin := [0, 1, 2, 4, 7]) (sps := [⟨[3], [], [5], [(.slot 32)]⟩, ⟨[5], [], [6], [(.slot 33)]⟩, ⟨[6], [3], [7], [(.slot 10)]⟩]) (es' := [(_, _), (_, _), (_, _), (_, _), (10, .v (.int .i64 v18))]) (by kernel_rfl) rfl rfl
              ⟨st_plain rfl (op_move _ _ _ _ rfl rfl),
                st_plain rfl (op_bin _ _ _ _ _ rfl rfl (ibind (f := Value.int .i64) (Option.some.inj hv18))),
                st_plain rfl (LOp.drop [_] (op_assign _ _ _ _ rfl rfl)),
                trivial⟩ ?_
            exact pt_next _ (Option.some.inj h).symm rfl
          · have h := cond_f hb32 h
            refine ht_exit ?_
            refine pt_x_then ?_
            refine pt_x_then ?_
            refine pt_x_in ?_
            refine pt_pick [1, 2, 3] (by kernel_rfl) (es' := [(_, _), (_, _), (_, _)]) rfl ?_
            exact hl27 _ (ho29 _ (Option.some.inj h).symm).symm
  · intro u5 h hl6 hr7
    obtain ⟨v1, hv1, h⟩ := bind_some h
    refine cond_some h (fun hg1_3 h => ?_) (fun hg1_3 h => ?_)
    · refine ht_seqR hn (El := [_, _, _, (11, .v (.int .i64 n)), (12, .v (.bool v1)), (13, .v (.bool (!v1))), (14, .v (.bool true)), (15, .v undef), (16, .v undef), (17, .v undef), (18, .v undef), (19, .v undef), (20, .v undef), (21, .v (.bool true))]) (init := [0, 1, 2]) (fin := [0, 1, 2, 13]) (sps := [⟨[2], [], [3], [(.slot 11)]⟩, ⟨[3], [], [4], [(.slot 12)]⟩, ⟨[4], [], [5], [(.slot 13)]⟩, ⟨[5], [], [6], [(.slot 14)]⟩, ⟨[6], [], [7], [(.slot 15)]⟩, ⟨[6], [], [8], [(.slot 16)]⟩, ⟨[6], [], [9], [(.slot 17)]⟩, ⟨[6], [], [10], [(.slot 18)]⟩, ⟨[6], [], [11], [(.slot 19)]⟩, ⟨[6], [], [12], [(.slot 20)]⟩, ⟨[6], [], [13], [(.slot 21)]⟩]) (es' := [(_, _), (_, _), (_, _), (21, .v (.bool true))]) (by kernel_rfl) rfl rfl
        ⟨st_plain rfl (op_move _ _ _ _ rfl rfl),
          st_plain rfl (op_call _ _ 25 _ _ rfl Try.call25 rfl (ok_wherryref01_in n 0 24 _ hv1) rfl rfl),
          st_plain rfl (op_un _ _ _ _ rfl rfl),
          st_plain rfl (op_move _ _ _ _ (congrArg (fun b => AV.v (Value.bool b)) hg1_3) rfl),
          st_skip 3 14 _ false rfl rfl rfl rfl (List.Mem.head _),
          st_skip 3 14 _ false rfl rfl rfl rfl (List.Mem.head _),
          st_skip 3 14 _ false rfl rfl rfl rfl (List.Mem.head _),
          st_skip 3 14 _ false rfl rfl rfl rfl (List.Mem.head _),
          st_skip 3 14 _ false rfl rfl rfl rfl (List.Mem.head _),
          st_skip 3 14 _ false rfl rfl rfl rfl (List.Mem.head _),
          st_plain rfl (op_pick _ _ true _ rfl rfl),
          trivial⟩ ?_
      exact hl6 _ (Option.some.inj h).symm
    · obtain ⟨v2, hv2, h⟩ := bind_some h
      obtain ⟨v3, hv3, h⟩ := bind_some h
      refine ht_seqR hn (El := [_, _, _, (11, .v (.int .i64 n)), (12, .v (.bool v1)), (13, .v (.bool (!v1))), (14, .v (.bool false)), (15, .v (.int .i64 at_)), (16, .fl .shr 1 (List.map (Value.int .u8) b)), (17, .v (.int .i64 (b.length : Int))), (18, .v (.int .i64 v2)), (19, .v (.bool v3)), (20, .v (.bool (!v3))), (21, .v (.bool (!v3)))]) (init := [0, 1, 2]) (fin := [0, 1, 2, 13]) (sps := [⟨[2], [], [3], [(.slot 11)]⟩, ⟨[3], [], [4], [(.slot 12)]⟩, ⟨[4], [], [5], [(.slot 13)]⟩, ⟨[5], [], [6], [(.slot 14)]⟩, ⟨[6, 1], [], [7], [(.slot 15)]⟩, ⟨[6, 0], [], [8], [(.slot 16)]⟩, ⟨[6, 8], [], [9], [(.slot 17)]⟩, ⟨[6, 9], [], [10], [(.slot 18)]⟩, ⟨[6, 7, 10], [], [11], [(.slot 19)]⟩, ⟨[6, 11], [], [12], [(.slot 20)]⟩, ⟨[6, 12], [], [13], [(.slot 21)]⟩]) (es' := [(_, _), (_, _), (_, _), (21, .v (.bool (!v3)))]) (by kernel_rfl) rfl rfl
        ⟨st_plain rfl (op_move _ _ _ _ rfl rfl),
          st_plain rfl (op_call _ _ 25 _ _ rfl Try.call25 rfl (ok_wherryref01_in n 0 24 _ hv1) rfl rfl),
          st_plain rfl (op_un _ _ _ _ rfl rfl),
          st_plain rfl (op_move _ _ _ _ (congrArg (fun b => AV.v (Value.bool b)) hg1_3) rfl),
          st_run 3 14 false rfl rfl rfl (List.Mem.head _) (op_move _ _ _ _ rfl rfl),
          st_run 3 14 false rfl rfl rfl (List.Mem.head _) (op_move _ _ _ _ rfl rfl),
          st_run 3 14 false rfl rfl rfl (List.Mem.head _) (op_len_fl _ _ _ Try.underlying22 rfl (by decide) (map_len _)),
          st_run 3 14 false rfl rfl rfl (List.Mem.head _) (op_bin _ _ _ _ _ rfl rfl (ibind (f := Value.int .i64) (Option.some.inj hv2))),
          st_run 3 14 false rfl rfl rfl (List.Mem.head _) (op_call _ _ 25 _ _ rfl Try.call25 rfl (ok_wherryref01_in at_ 0 v2 _ hv3) rfl rfl),
          st_run 3 14 false rfl rfl rfl (List.Mem.head _) (op_un _ _ _ _ rfl rfl),
          st_plain rfl (op_pick _ _ false _ rfl rfl),
          trivial⟩ ?_
      exact hl6 _ (Option.some.inj h).symm

set_option maxHeartbeats 1000000 in
theorem ok_bits_Turn (v : Int) (n : Int) (r : (Int × Int)) (h : Sh.bits_Turn v n = some r) : FnOK Try.prog 20 [.v (.int .i64 v), .v (.int .i64 n)] (.tup [.v (.int .i64 r.1), .v (.int .i64 r.2)]) := by
  unfold Sh.bits_Turn at h
  refine fn_ok Try.func20 rfl (Nat.le_of_ble_eq_true rfl) rfl rfl fun g0 hn hio => ?_
  refine ht_seq ?_
  refine ht_seqR hn (El := [_, _, (4, .v (.int .i64 0)), (5, .v (.int .i64 0))]) (init := [0, 1]) (fin := [0, 1]) (sps := [⟨[], [], [2], [(.slot 4)]⟩, ⟨[], [], [3], [(.slot 5)]⟩]) (es' := [(_, _), (_, _)]) (by kernel_rfl) rfl rfl
    ⟨st_plain rfl (op_assign _ _ _ _ rfl rfl),
      st_plain rfl (op_assign _ _ _ _ rfl rfl),
      trivial⟩ ?_
  refine pt_then ?_
  refine ht_seq ?_
  refine ht_seq ?_
  obtain ⟨v1, hv1, h⟩ := bind_some h
  refine ht_seqR hn (El := [_, _, (8, .v (.int .i64 v)), (9, .v (.int .i64 n)), (10, .v (.bool v1)), (11, .v (.bool (!v1)))]) (init := [0, 1]) (fin := [0, 1, 5]) (sps := [⟨[0], [], [2], [(.slot 8)]⟩, ⟨[1], [], [3], [(.slot 9)]⟩, ⟨[2, 3], [], [4], [(.slot 10)]⟩, ⟨[4], [], [5], [(.slot 11)]⟩]) (es' := [(_, _), (_, _), (11, .v (.bool (!v1)))]) (by kernel_rfl) rfl rfl
    ⟨st_plain rfl (op_move _ _ _ _ rfl rfl),
      st_plain rfl (op_move _ _ _ _ rfl rfl),
      st_plain rfl (op_call _ _ 27 _ _ rfl Try.call27 rfl (ok_bits_fits v n _ hv1) rfl rfl),
      st_plain rfl (op_un _ _ _ _ rfl rfl),
      trivial⟩ ?_
  refine pt_then ?_
  refine ht_cond _ rfl (fun hb2 => ?_) (fun hb2 => ?_)
  · have h := cond_t hb2 h
    refine ht_seq ?_
    refine ht_seqR hn (El := [_, _, _, (4, .v (.int .i64 0)), (5, .v (.int .i64 1))]) (init := [0, 1, 2]) (fin := [3, 4]) (sps := [⟨[], [], [3], [(.slot 4)]⟩, ⟨[], [], [4], [(.slot 5)]⟩]) (es' := [(4, .v (.int .i64 0)), (5, .v (.int .i64 1))]) (by kernel_rfl) rfl rfl
      ⟨st_plain rfl (op_assign _ _ _ _ rfl rfl),
        st_plain rfl (op_assign _ _ _ _ rfl rfl),
        trivial⟩ ?_
    refine pt_then ?_
    refine ht_ret ?_
    refine pt_r_then ?_
    obtain rfl := Option.some.inj h
    exact pt_ret hio rfl (.tmp _ _ (.tmp _ _ .nil)) rfl rfl
  · have h := cond_f hb2 h
    refine ht_skip ?_
    refine pt_then ?_
    refine ht_seq ?_
    refine ht_seqR hn (El := [_, _, _, (6, .v (.int .u32 0))]) (init := [0, 1, 2]) (fin := [0, 1, 3]) (sps := [⟨[], [], [3], [(.slot 6)]⟩]) (es' := [(_, _), (_, _), (6, .v (.int .u32 0))]) (by kernel_rfl) rfl rfl
      ⟨st_plain rfl (op_assign _ _ _ _ rfl rfl),
        trivial⟩ ?_
    refine pt_then ?_
    refine ht_seq ?_
    refine ht_seq ?_
    obtain ⟨v3, hv3, h⟩ := bind_some h
    refine ht_seqR hn (El := [_, _, _, (12, .v (.int .i64 v)), (13, .v (.int .u32 v3)), (7, .v (.int .u32 v3))]) (init := [0, 1, 2]) (fin := [1, 2, 5]) (sps := [⟨[0], [], [3], [(.slot 12)]⟩, ⟨[3], [], [4], [(.slot 13)]⟩, ⟨[4], [], [5], [(.slot 7)]⟩]) (es' := [(_, _), (_, _), (7, .v (.int .u32 v3))]) (by kernel_rfl) rfl rfl
      ⟨st_plain rfl (op_move _ _ _ _ rfl rfl),
        st_plain rfl ((Option.some.inj hv3) ▸ op_conv _ _ _ Try.underlying3 Try.underlying52 rfl),
        st_plain rfl (op_assign _ _ _ _ rfl rfl),
        trivial⟩ ?_
    refine pt_then ?_
    refine ht_loopS h (fun ((s14, s15, s16) : Int × Int × Int) => [(1, .v (.int .i64 s14)), (6, .v (.int .u32 s15)), (7, .v (.int .u32 s16))]) (fun (s18 : Int) => [(6, .v (.int .u32 s18))]) ?_ ?_
    · rintro s18 h
      refine pt_then ?_
      refine ht_seq ?_
      obtain ⟨v26, hv26, h⟩ := bind_some h
      refine ht_seqR hn (El := [_, (25, .v (.int .u32 s18)), (26, .v (.int .i64 v26)), (4, .v (.int .i64 v26)), (5, .v (.int .i64 0))]) (init := [0]) (fin := [3, 4]) (sps := [⟨[0], [], [1], [(.slot 25)]⟩, ⟨[1], [], [2], [(.slot 26)]⟩, ⟨[2], [], [3], [(.slot 4)]⟩, ⟨[], [], [4], [(.slot 5)]⟩]) (es' := [(4, .v (.int .i64 v26)), (5, .v (.int .i64 0))]) (by kernel_rfl) rfl rfl
        ⟨st_plain rfl (op_move _ _ _ _ rfl rfl),
          st_plain rfl ((Option.some.inj hv26) ▸ op_conv _ _ _ Try.underlying52 Try.underlying3 rfl),
          st_plain rfl (op_assign _ _ _ _ rfl rfl),
          st_plain rfl (op_assign _ _ _ _ rfl rfl),
          trivial⟩ ?_
      refine pt_then ?_
      refine ht_ret ?_
      obtain rfl := Option.some.inj h
      exact pt_ret hio rfl (.tmp _ _ (.tmp _ _ .nil)) rfl rfl
    · rintro u19 hl20 hr21 ⟨s14, s15, s16⟩ rr24 h ho22
      refine ht_seq ?_
      refine ht_seq ?_
      refine ht_seqR hn (El := [_, _, _, (14, .v (.int .i64 s14)), (15, .v (.bool ((decide (0 < s14)))))]) (init := [0, 1, 2]) (fin := [0, 1, 2, 4]) (sps := [⟨[0], [], [3], [(.slot 14)]⟩, ⟨[3], [], [4], [(.slot 15)]⟩]) (es' := [(_, _), (_, _), (_, _), (15, .v (.bool ((decide (0 < s14)))))]) (by kernel_rfl) rfl rfl
        ⟨st_plain rfl (op_move _ _ _ _ rfl rfl),
          st_plain rfl (op_bin _ _ _ _ _ rfl rfl rfl),
          trivial⟩ ?_
      refine pt_then ?_
      refine ht_cond _ rfl (fun hb25 => ?_) (fun hb25 => ?_)
      · have h := cond_t hb25 h
        refine ht_skip ?_
        refine pt_then ?_
        refine ht_seq ?_
        refine ht_block ?_
        refine ht_seq ?_
        obtain ⟨v5, hv5, h⟩ := bind_some h
        obtain ⟨v6, hv6, h⟩ := bind_some h
        obtain ⟨v7, hv7, h⟩ := bind_some h
        refine ht_seqR hn (El := [_, _, _, _, (18, .v (.int .u32 s15)), (19, .v (.int .u32 v5)), (20, .v (.int .u32 s16)), (21, .v (.int .u32 v6)), (22, .v (.int .u32 v7)), (6, .v (.int .u32 v7))]) (init := [0, 1, 2, 3]) (fin := [0, 2, 9]) (sps := [⟨[1], [], [4], [(.slot 18)]⟩, ⟨[4], [], [5], [(.slot 19)]⟩, ⟨[2], [], [6], [(.slot 20)]⟩, ⟨[6], [], [7], [(.slot 21)]⟩, ⟨[5, 7], [], [8], [(.slot 22)]⟩, ⟨[8], [1], [9], [(.slot 6)]⟩]) (es' := [(_, _), (_, _), (6, .v (.int .u32 v7))]) (by kernel_rfl) rfl rfl
          ⟨st_plain rfl (op_move _ _ _ _ rfl rfl),
            st_plain rfl (op_bin _ _ _ _ _ rfl rfl (shl_ok hv5)),
            st_plain rfl (op_move _ _ _ _ rfl rfl),
            st_plain rfl (op_bin _ _ _ _ _ rfl rfl (ibind (f := Value.int .u32) (Option.some.inj hv6))),
            st_plain rfl (op_bin _ _ _ _ _ rfl rfl (ibind (f := Value.int .u32) (Option.some.inj hv7))),
            st_plain rfl (LOp.drop [_] (op_assign _ _ _ _ rfl rfl)),
            trivial⟩ ?_
        refine pt_then ?_
        obtain ⟨v8, hv8, h⟩ := bind_some h
        refine ht_seqR hn (El := [_, _, _, (23, .v (.int .u32 s16)), (24, .v (.int .u32 v8)), (7, .v (.int .u32 v8))]) (init := [0, 1, 2]) (fin := [0, 2, 5]) (sps := [⟨[1], [], [3], [(.slot 23)]⟩, ⟨[3], [], [4], [(.slot 24)]⟩, ⟨[4], [1], [5], [(.slot 7)]⟩]) (es' := [(_, _), (_, _), (7, .v (.int .u32 v8))]) (by kernel_rfl) rfl rfl
          ⟨st_plain rfl (op_move _ _ _ _ rfl rfl),
            st_plain rfl (op_bin _ _ _ _ _ rfl rfl (shr_ok hv8)),
            st_plain rfl (LOp.drop [_] (op_assign _ _ _ _ rfl rfl)),
            trivial⟩ ?_
        refine pt_inb ?_
        refine pt_then ?_
        obtain ⟨v9, hv9, h⟩ := bind_some h
        refine ht_seqR hn (El := [_, _, _, (16, .v (.int .i64 s14)), (17, .v (.int .i64 v9)), (1, .v (.int .i64 v9))]) (init := [0, 1, 2]) (fin := [1, 2, 5]) (sps := [⟨[0], [], [3], [(.slot 16)]⟩, ⟨[3], [], [4], [(.slot 17)]⟩, ⟨[4], [0], [5], [(.slot 1)]⟩]) (es' := [(_, _), (_, _), (1, .v (.int .i64 v9))]) (by kernel_rfl) rfl rfl
          ⟨st_plain rfl (op_move _ _ _ _ rfl rfl),
            st_plain rfl (op_bin _ _ _ _ _ rfl rfl (ibind (f := Value.int .i64) (Option.some.inj hv9))),
            st_plain rfl (LOp.drop [_] (op_assign _ _ _ _ rfl rfl)),
            trivial⟩ ?_
        refine pt_pick [2, 0, 1] (by kernel_rfl) (es' := [(_, _), (_, _), (_, _)]) rfl ?_
        exact pt_next _ (Option.some.inj h).symm rfl
      · have h := cond_f hb25 h
        refine ht_exit ?_
        refine pt_x_then ?_
        refine pt_x_then ?_
        refine pt_x_in ?_
        refine pt_pick [1] (by kernel_rfl) (es' := [(_, _)]) rfl ?_
        exact hl20 _ (ho22 _ (Option.some.inj h).symm).symm

set_option maxHeartbeats 1000000 in
theorem ok_wherryref01_turn (v : Int) (n : Int) (r : Int) (h : Sh.wherryref01_turn v n = some r) : FnOK Try.prog 31 [.v (.int .i64 v), .v (.int .i64 n)] (.v (.int .i64 r)) := by
  unfold Sh.wherryref01_turn at h
  refine fn_ok Try.func31 rfl (Nat.le_of_ble_eq_true rfl) rfl rfl fun g0 hn hio => ?_
  refine ht_seq ?_
  refine ht_seqR hn (El := [_, _, (4, .v (.int .i64 0))]) (init := [0, 1]) (fin := [0, 1]) (sps := [⟨[], [], [2], [(.slot 4)]⟩]) (es' := [(_, _), (_, _)]) (by kernel_rfl) rfl rfl
    ⟨st_plain rfl (op_assign _ _ _ _ rfl rfl),
      trivial⟩ ?_
  refine pt_then ?_
  refine ht_seq ?_
  refine ht_seqR hn (El := [_, _, (5, .v (.int .i64 0))]) (init := [0, 1]) (fin := [0, 1, 2]) (sps := [⟨[], [], [2], [(.slot 5)]⟩]) (es' := [(_, _), (_, _), (5, .v (.int .i64 0))]) (by kernel_rfl) rfl rfl
    ⟨st_plain rfl (op_assign _ _ _ _ rfl rfl),
      trivial⟩ ?_
  refine pt_then ?_
  refine ht_seq ?_
  refine ht_seq ?_
  refine ht_seqR hn (El := [_, _, _, (6, .v (.int .i64 0))]) (init := [0, 1, 2]) (fin := [0, 1, 2, 3]) (sps := [⟨[], [], [3], [(.slot 6)]⟩]) (es' := [(_, _), (_, _), (_, _), (6, .v (.int .i64 0))]) (by kernel_rfl) rfl rfl
    ⟨st_plain rfl (op_assign _ _ _ _ rfl rfl),
      trivial⟩ ?_
  refine pt_then ?_
  refine ht_loopS h (fun ((s11, s12) : Int × Int) => [(0, .v (.int .i64 v)), (1, .v (.int .i64 n)), (5, .v (.int .i64 s11)), (6, .v (.int .i64 s12))]) (fun (s14 : Int) => [(5, .v (.int .i64 s14))]) ?_ ?_
  · rintro s14 h
    refine pt_then ?_
    refine ht_seq ?_
    refine ht_seqR hn (El := [_, (20, .v (.int .i64 s14)), (4, .v (.int .i64 s14))]) (init := [0]) (fin := [2]) (sps := [⟨[0], [], [1], [(.slot 20)]⟩, ⟨[1], [], [2], [(.slot 4)]⟩]) (es' := [(4, .v (.int .i64 s14))]) (by kernel_rfl) rfl rfl
      ⟨st_plain rfl (op_move _ _ _ _ rfl rfl),
        st_plain rfl (op_assign _ _ _ _ rfl rfl),
        trivial⟩ ?_
    refine pt_then ?_
    refine ht_ret ?_
    obtain rfl := Option.some.inj h
    exact pt_ret hio rfl (.tmp _ _ .nil) rfl rfl
  · rintro u15 hl16 hr17 ⟨s11, s12⟩ rr20 h ho18
    refine ht_seq ?_
    refine ht_seq ?_
    refine ht_seqR hn (El := [_, _, _, _, (7, .v (.int .i64 s12)), (8, .v (.int .i64 n)), (9, .v (.bool ((decide (s12 < n)))))]) (init := [0, 1, 2, 3]) (fin := [0, 1, 2, 3, 6]) (sps := [⟨[3], [], [4], [(.slot 7)]⟩, ⟨[1], [], [5], [(.slot 8)]⟩, ⟨[4, 5], [], [6], [(.slot 9)]⟩]) (es' := [(_, _), (_, _), (_, _), (_, _), (9, .v (.bool ((decide (s12 < n)))))]) (by kernel_rfl) rfl rfl
      ⟨st_plain rfl (op_move _ _ _ _ rfl rfl),
        st_plain rfl (op_move _ _ _ _ rfl rfl),
        st_plain rfl (op_bin _ _ _ _ _ rfl rfl rfl),
        trivial⟩ ?_
    refine pt_then ?_
    refine ht_cond _ rfl (fun hb21 => ?_) (fun hb21 => ?_)
    · have h := cond_t hb21 h
      refine ht_skip ?_
      refine pt_then ?_
      refine ht_seq ?_
      refine ht_block ?_
      obtain ⟨v2, hv2, h⟩ := bind_some h
      obtain ⟨v3, hv3, h⟩ := bind_some h
      obtain ⟨v4, hv4, h⟩ := bind_some h
      obtain ⟨v5, hv5, h⟩ := bind_some h
      obtain ⟨v6, hv6, h⟩ := bind_some h
      refine ht_seqR hn (El := [_, _, _, _, _, (12, .v (.int .i64 s11)), (13, .v (.int .i64 v2)), (14, .v (.int .i64 v)), (15, .v (.int .i64 s12)), (16, .v (.int .u64 v3)), (17, .v (.int .i64 v4)), (18, .v (.int .i64 v5)), (19, .v (.int .i64 v6)), (5, .v (.int .i64 v6))]) (init := [0, 1, 2, 3, 4]) (fin := [0, 1, 3, 13]) (sps := [⟨[2], [], [5], [(.slot 12)]⟩, ⟨[5], [], [6], [(.slot 13)]⟩, ⟨[0], [], [7], [(.slot 14)]⟩, ⟨[3], [], [8], [(.slot 15)]⟩, ⟨[8], [], [9], [(.slot 16)]⟩, ⟨[7, 9], [], [10], [(.slot 17)]⟩, ⟨[10], [], [11], [(.slot 18)]⟩, ⟨[6, 11], [], [12], [(.slot 19)]⟩, ⟨[12], [2], [13], [(.slot 5)]⟩]) (es' := [(_, _), (_, _), (_, _), (5, .v (.int .i64 v6))]) (by kernel_rfl) rfl rfl
        ⟨st_plain rfl (op_move _ _ _ _ rfl rfl),
          st_plain rfl (op_bin _ _ _ _ _ rfl rfl (shl_ok hv2)),
          st_plain rfl (op_move _ _ _ _ rfl rfl),
          st_plain rfl (op_move _ _ _ _ rfl rfl),
          st_plain rfl ((Option.some.inj hv3) ▸ op_conv _ _ _ Try.underlying3 Try.underlying43 rfl),
          st_plain rfl (op_bin _ _ _ _ _ rfl rfl (shr_ok hv4)),
          st_plain rfl (op_bin _ _ _ _ _ rfl rfl (ibind (f := Value.int .i64) (Option.some.inj hv5))),
          st_plain rfl (op_bin _ _ _ _ _ rfl rfl (ibind (f := Value.int .i64) (Option.some.inj hv6))),
          st_plain rfl (LOp.drop [_] (op_assign _ _ _ _ rfl rfl)),
          trivial⟩ ?_
      refine pt_inb ?_
      refine pt_then ?_
      obtain ⟨v7, hv7, h⟩ := bind_some h
      refine ht_seqR hn (El := [_, _, _, _, (10, .v (.int .i64 s12)), (11, .v (.int .i64 v7)), (6, .v (.int .i64 v7))]) (init := [0, 1, 2, 3]) (fin := [0, 1, 3, 6]) (sps := [⟨[2], [], [4], [(.slot 10)]⟩, ⟨[4], [], [5], [(.slot 11)]⟩, ⟨[5], [2], [6], [(.slot 6)]⟩]) (es' := [(_, _), (_, _), (_, _), (6, .v (.int .i64 v7))]) (by kernel_rfl) rfl rfl
        ⟨st_plain rfl (op_move _ _ _ _ rfl rfl),
          st_plain rfl (op_bin _ _ _ _ _ rfl rfl (ibind (f := Value.int .i64) (Option.some.inj hv7))),
          st_plain rfl (LOp.drop [_] (op_assign _ _ _ _ rfl rfl)),
          trivial⟩ ?_
      exact pt_next _ (Option.some.inj h).symm rfl
    · have h := cond_f hb21 h
      refine ht_exit ?_
      refine pt_x_then ?_
      refine pt_x_then ?_
      refine pt_x_in ?_
      refine pt_pick [2] (by kernel_rfl) (es' := [(_, _)]) rfl ?_
      exact hl16 _ (ho18 _ (Option.some.inj h).symm).symm

set_option maxHeartbeats 1000000 in
theorem ok_wherryref01_Turn (v : Int) (n : Int) (r : (Int × Int)) (h : Sh.wherryref01_Turn v n = some r) : FnOK Try.prog 21 [.v (.int .i64 v), .v (.int .i64 n)] (.tup [.v (.int .i64 r.1), .v (.int .i64 r.2)]) := by
  unfold Sh.wherryref01_Turn at h
  refine fn_ok Try.func21 rfl (Nat.le_of_ble_eq_true rfl) rfl rfl fun g0 hn hio => ?_
  refine ht_seq ?_
  refine ht_seqR hn (El := [_, _, (4, .v (.int .i64 0)), (5, .v (.int .i64 0))]) (init := [0, 1]) (fin := [0, 1]) (sps := [⟨[], [], [2], [(.slot 4)]⟩, ⟨[], [], [3], [(.slot 5)]⟩]) (es' := [(_, _), (_, _)]) (by kernel_rfl) rfl rfl
    ⟨st_plain rfl (op_assign _ _ _ _ rfl rfl),
      st_plain rfl (op_assign _ _ _ _ rfl rfl),
      trivial⟩ ?_
  refine pt_then ?_
  refine ht_seq ?_
  refine ht_seq ?_
  obtain ⟨v1, hv1, h⟩ := bind_some h
  refine ht_seqR hn (El := [_, _, (6, .v (.int .i64 v)), (7, .v (.int .i64 n)), (8, .v (.bool v1)), (9, .v (.bool (!v1)))]) (init := [0, 1]) (fin := [0, 1, 5]) (sps := [⟨[0], [], [2], [(.slot 6)]⟩, ⟨[1], [], [3], [(.slot 7)]⟩, ⟨[2, 3], [], [4], [(.slot 8)]⟩, ⟨[4], [], [5], [(.slot 9)]⟩]) (es' := [(_, _), (_, _), (9, .v (.bool (!v1)))]) (by kernel_rfl) rfl rfl
    ⟨st_plain rfl (op_move _ _ _ _ rfl rfl),
      st_plain rfl (op_move _ _ _ _ rfl rfl),
      st_plain rfl (op_call _ _ 29 _ _ rfl Try.call29 rfl (ok_wherryref01_fits v n _ hv1) rfl rfl),
      st_plain rfl (op_un _ _ _ _ rfl rfl),
      trivial⟩ ?_
  refine pt_then ?_
  refine ht_cond _ rfl (fun hb2 => ?_) (fun hb2 => ?_)
  · have h := cond_t hb2 h
    refine ht_seq ?_
    refine ht_seqR hn (El := [_, _, _, (4, .v (.int .i64 0)), (5, .v (.int .i64 1))]) (init := [0, 1, 2]) (fin := [3, 4]) (sps := [⟨[], [], [3], [(.slot 4)]⟩, ⟨[], [], [4], [(.slot 5)]⟩]) (es' := [(4, .v (.int .i64 0)), (5, .v (.int .i64 1))]) (by kernel_rfl) rfl rfl
      ⟨st_plain rfl (op_assign _ _ _ _ rfl rfl),
        st_plain rfl (op_assign _ _ _ _ rfl rfl),
        trivial⟩ ?_
    refine pt_then ?_
    refine ht_ret ?_
    refine pt_r_then ?_
    obtain rfl := Option.some.inj h
    exact pt_ret hio rfl (.tmp _ _ (.tmp _ _ .nil)) rfl rfl
  · have h := cond_f hb2 h
    refine ht_skip ?_
    refine pt_then ?_
    refine ht_seq ?_
    obtain ⟨v3, hv3, h⟩ := bind_some h
    refine ht_seqR hn (El := [_, _, _, (10, .v (.int .i64 v)), (11, .v (.int .i64 n)), (12, .v (.int .i64 v3)), (4, .v (.int .i64 v3)), (5, .v (.int .i64 0))]) (init := [0, 1, 2]) (fin := [6, 7]) (sps := [⟨[0], [], [3], [(.slot 10)]⟩, ⟨[1], [], [4], [(.slot 11)]⟩, ⟨[3, 4], [], [5], [(.slot 12)]⟩, ⟨[5], [], [6], [(.slot 4)]⟩, ⟨[], [], [7], [(.slot 5)]⟩]) (es' := [(4, .v (.int .i64 v3)), (5, .v (.int .i64 0))]) (by kernel_rfl) rfl rfl
      ⟨st_plain rfl (op_move _ _ _ _ rfl rfl),
        st_plain rfl (op_move _ _ _ _ rfl rfl),
        st_plain rfl (op_call _ _ 31 _ _ rfl Try.call31 rfl (ok_wherryref01_turn v n _ hv3) rfl rfl),
        st_plain rfl (op_assign _ _ _ _ rfl rfl),
        st_plain rfl (op_assign _ _ _ _ rfl rfl),
        trivial⟩ ?_
    refine pt_then ?_
    refine ht_ret ?_
    obtain rfl := Option.some.inj h
    exact pt_ret hio rfl (.tmp _ _ (.tmp _ _ .nil)) rfl rfl

set_option maxHeartbeats 1000000 in
theorem ok_wherrykeep_Over (b : (List Int)) (r : Unit) (h : Sh.wherrykeep_Over b = some r) : FnE Try.prog 22 [.fl (.own 5) 1 (List.map (Value.int .u8) b)] (.tup []) := by
  unfold Sh.wherrykeep_Over at h
  refine fn_okE Try.func22 rfl (Nat.le_of_ble_eq_true rfl) rfl rfl fun g0 hn hio => ?_
  refine ht_seq ?_
  refine ht_seqR hn (El := [_, (2, .v (.int .i64 0))]) (init := [0]) (fin := [0, 1]) (sps := [⟨[], [], [1], [(.slot 2)]⟩]) (es' := [(_, _), (2, .v (.int .i64 0))]) (by kernel_rfl) rfl rfl
    ⟨st_plain rfl (op_assign _ _ _ _ rfl rfl),
      trivial⟩ ?_
  refine pt_then ?_
  refine ht_loopS h (fun ((s11, s12) : (List Int) × Int) => [(0, .fl (.own 5) 1 (List.map (Value.int .u8) s11)), (2, .v (.int .i64 s12))]) (fun (() : Unit) => []) ?_ ?_
  · rintro ⟨⟩ h
    obtain rfl := Option.some.inj h
    exact pt_endE hio rfl .nil rfl rfl
  · rintro u14 hl15 hr16 ⟨s11, s12⟩ rr19 h ho17
    refine ht_seq ?_
    refine ht_seq ?_
    refine ht_seqR hn (El := [_, _, (3, .v (.int .i64 s12)), (4, .same (.slot 0)), (5, .v (.int .i64 (s11.length : Int))), (6, .v (.bool ((decide (s12 < (s11.length : Int))))))]) (init := [0, 1]) (fin := [0, 1, 5]) (sps := [⟨[1], [], [2], [(.slot 3)]⟩, ⟨[0], [], [3], [(.slot 4)]⟩, ⟨[3, 0], [], [4], [(.slot 5)]⟩, ⟨[2, 4], [], [5], [(.slot 6)]⟩]) (es' := [(_, _), (_, _), (6, .v (.bool ((decide (s12 < (s11.length : Int))))))]) (by kernel_rfl) rfl rfl
      ⟨st_plain rfl (op_move _ _ _ _ rfl rfl),
        st_plain rfl (op_move _ _ _ _ rfl rfl),
        st_plain rfl (op_len_fl _ _ _ Try.underlying22 rfl (by decide) (map_len _)),
        st_plain rfl (op_bin _ _ _ _ _ rfl rfl rfl),
        trivial⟩ ?_
    refine pt_then ?_
    refine ht_cond _ rfl (fun hb20 => ?_) (fun hb20 => ?_)
    · have h := cond_t hb20 h
      refine ht_skip ?_
      refine pt_then ?_
      refine ht_seq ?_
      refine ht_block ?_
      obtain ⟨v2, hv2, h⟩ := bind_some h
      obtain ⟨v3, hv3, h⟩ := bind_some h
      obtain ⟨v4, hv4, h⟩ := bind_some h
      obtain ⟨v5, hv5, h⟩ := bind_some h
      obtain ⟨v6, hv6, h⟩ := bind_some h
      refine ht_seqR hn (El := [_, _, _, (9, .same (.slot 0)), (10, .v (.int .i64 s12)), (11, .same (.slot 0)), (12, .v (.int .i64 s12)), (13, .eref (.slot 0) (v2 * 1)), (14, .v (.int .u8 v3)), (15, .v (.int .u8 v4)), (16, .eref (.slot 0) (v5 * 1)), (0, .fl (.own 5) 1 (List.map (Value.int .u8) v6))]) (init := [0, 1, 2]) (fin := [11, 1]) (sps := [⟨[0], [], [3], [(.slot 9)]⟩, ⟨[1], [], [4], [(.slot 10)]⟩, ⟨[0], [], [5], [(.slot 11)]⟩, ⟨[1], [], [6], [(.slot 12)]⟩, ⟨[5, 0, 6], [], [7], [(.slot 13)]⟩, ⟨[7, 0], [], [8], [(.slot 14)]⟩, ⟨[8], [], [9], [(.slot 15)]⟩, ⟨[3, 0, 4], [], [10], [(.slot 16)]⟩, ⟨[10, 9], [0], [11], []⟩]) (es' := [(0, .fl (.own 5) 1 (List.map (Value.int .u8) v6)), (_, _)]) (by kernel_rfl) rfl rfl
        ⟨st_plain rfl (op_move _ _ _ _ rfl rfl),
          st_plain rfl (op_move _ _ _ _ rfl rfl),
          st_plain rfl (op_move _ _ _ _ rfl rfl),
          st_plain rfl (op_move _ _ _ _ rfl rfl),
          st_plain rfl (op_ix _ _ _ _ _ _ _ _ Try.underlying22 sz5 (by decide) rfl rfl rfl (ix_ok hv2).1 (map_lt (ix_ok hv2).2) rfl),
          st_plain rfl (op_load_e _ _ _ _ _ _ Try.underlying5 rfl rfl rfl (map_get hv3)),
          st_plain rfl (op_bin _ _ _ _ _ rfl rfl (ibind (f := Value.int .u8) (Option.some.inj hv4))),
          st_plain rfl (op_ix _ _ _ _ _ _ _ _ Try.underlying22 sz5 (by decide) rfl rfl rfl (ix_ok hv5).1 (map_lt (ix_ok hv5).2) rfl),
          st_plain rfl (op_store_e _ _ _ _ _ _ _ _ sz5 rfl rfl rfl (by decide) (map_lt (ix_ok hv5).2) ((map_set (f := Value.int .u8) _ (ix_ok hv5).2).trans (congrArg (List.map _) (Option.some.inj hv6)))),
          trivial⟩ ?_
      refine pt_inb ?_
      refine pt_then ?_
      obtain ⟨v7, hv7, h⟩ := bind_some h
      refine ht_seqR hn (El := [_, _, (7, .v (.int .i64 s12)), (8, .v (.int .i64 v7)), (2, .v (.int .i64 v7))]) (init := [0, 1]) (fin := [0, 4]) (sps := [⟨[1], [], [2], [(.slot 7)]⟩, ⟨[2], [], [3], [(.slot 8)]⟩, ⟨[3], [1], [4], [(.slot 2)]⟩]) (es' := [(_, _), (2, .v (.int .i64 v7))]) (by kernel_rfl) rfl rfl
        ⟨st_plain rfl (op_move _ _ _ _ rfl rfl),
          st_plain rfl (op_bin _ _ _ _ _ rfl rfl (ibind (f := Value.int .i64) (Option.some.inj hv7))),
          st_plain rfl (LOp.drop [_] (op_assign _ _ _ _ rfl rfl)),
          trivial⟩ ?_
      exact pt_next _ (Option.some.inj h).symm rfl
    · have h := cond_f hb20 h
      refine ht_exit ?_
      refine pt_x_then ?_
      refine pt_x_then ?_
      refine pt_x_in ?_
      refine pt_pick [] (by kernel_rfl) (es' := []) rfl ?_
      exact hl15 _ (ho17 _ (Option.some.inj h).symm).symm

end Go.Proofs.Ytiopoaenpajlmaa
