/-
  The model's runs are what is told in Lean.
-/
import Derived.Test.YtjnihhkkaioahaaProg
import Derived.KernelRfl
import Derived.Test.YtjnihhkkaioahaaSh
set_option linter.unusedVariables false
set_option linter.unusedSimpArgs false
namespace Go.Proofs.Ytjnihhkkaioahaa
open Go.Abs Go.Abs.Sh

theorem el22 : ElemT Try.prog 22 3 1 8 := ⟨⟨Try.t3, .int .i64 0, Try.underlying22, by kernel_rfl, by kernel_rfl, by kernel_rfl, by kernel_rfl, by decide, by kernel_rfl⟩⟩
theorem el23 : ElemT Try.prog 23 5 1 1 := ⟨⟨Try.t5, .int .u8 0, Try.underlying23, by kernel_rfl, by kernel_rfl, by kernel_rfl, by kernel_rfl, by decide, by kernel_rfl⟩⟩
theorem sz3 : (Try.prog.info? 3).map (·.size) = some 1 := by kernel_rfl
theorem za47 : ((Try.prog.info? 47).bind (·.zero)).map (·.cells.toList) = some (List.map (Value.int .i64) (List.replicate 16 (0 : Int))) := by kernel_rfl
theorem sz47 : (Try.prog.info? 47).map (·.size) = some 16 := by kernel_rfl
theorem zr47 : (Try.prog.info? 47).bind (·.zero) = some (.agg #[.int .i64 0, .int .i64 0, .int .i64 0, .int .i64 0, .int .i64 0, .int .i64 0, .int .i64 0, .int .i64 0, .int .i64 0, .int .i64 0, .int .i64 0, .int .i64 0, .int .i64 0, .int .i64 0, .int .i64 0, .int .i64 0]) := by kernel_rfl
theorem zr3 : (Try.prog.info? 3).bind (·.zero) = some (.int .i64 0) := by kernel_rfl
theorem sz5 : (Try.prog.info? 5).map (·.size) = some 1 := by kernel_rfl
theorem zr5 : (Try.prog.info? 5).bind (·.zero) = some (.int .u8 0) := by kernel_rfl
theorem zr40 : (Try.prog.info? 40).bind (·.zero) = some (.agg #[.slice none 0 0, .int .i64 0]) := by kernel_rfl
theorem sz40 : (Try.prog.info? 40).map (·.size) = some 2 := by kernel_rfl
theorem sz23 : (Try.prog.info? 23).map (·.size) = some 1 := by kernel_rfl
theorem fs40 : ∀ fs, Try.prog.underlying 40 = some (.struct fs) → fs.toList.map (fun f => (Try.prog.info? f.type).map (·.size)) = ([1, 1] : List Nat).map some := by
  intro fs h
  rw [Try.underlying40] at h
  cases h
  kernel_rfl

set_option maxHeartbeats 1000000 in
theorem ok_wherrykeep_TwinInts (l : (List Int)) (r : (List Int)) (h : Sh.wherrykeep_TwinInts l = some r) : FnOK Try.prog 9 [.fl .shr 1 (List.map (Value.int .i64) l)] (.fl (.own 3) 1 (List.map (Value.int .i64) r)) := by
  unfold Sh.wherrykeep_TwinInts at h
  refine fn_ok Try.func9 rfl (Nat.le_of_ble_eq_true rfl) rfl rfl fun g0 hn hio => ?_
  refine ht_seq ?_
  refine ht_seqR hn (El := [_, (2, .v (.slice none 0 0))]) (init := [0]) (fin := [0]) (sps := [⟨[], [], [1], [(.slot 2)]⟩]) (es' := [(_, _)]) (by kernel_rfl) rfl rfl
    ⟨st_plain rfl (op_assign _ _ _ _ rfl rfl),
      trivial⟩ ?_
  refine pt_then ?_
  refine ht_seq ?_
  refine ht_seqR hn (El := [_, (3, .v (.slice none 0 0))]) (init := [0]) (fin := [0, 1]) (sps := [⟨[], [], [1], [(.slot 3)]⟩]) (es' := [(_, _), (3, .v (.slice none 0 0))]) (by kernel_rfl) rfl rfl
    ⟨st_plain rfl (op_assign _ _ _ _ rfl rfl),
      trivial⟩ ?_
  refine pt_then ?_
  refine ht_seq ?_
  obtain ⟨v1, hv1, h⟩ := bind_some h
  refine ht_seqR hn (El := [_, _, (4, .v (.slice none 0 0)), (5, .fl .shr 1 (List.map (Value.int .i64) l)), (6, .fl (.own 3) 1 (List.map (Value.int .i64) v1)), (2, .fl (.own 3) 1 (List.map (Value.int .i64) v1))]) (init := [0, 1]) (fin := [5]) (sps := [⟨[1], [], [2], [(.slot 4)]⟩, ⟨[0], [], [3], [(.slot 5)]⟩, ⟨[2, 3], [], [4], [(.slot 6)]⟩, ⟨[], [4], [5], [(.slot 2)]⟩]) (es' := [(2, .fl (.own 3) 1 (List.map (Value.int .i64) v1))]) (by kernel_rfl) rfl rfl
    ⟨st_plain rfl (op_move _ _ _ _ rfl rfl),
      st_plain rfl (op_move _ _ _ _ rfl rfl),
      st_plain rfl (op_app_nil _ _ _ _ el22 rfl rfl (map_len _) hv1 (congrArg (List.map _) (app_nil_eq hv1))),
      st_plain rfl (op_assign_take _ _ _ _ rfl),
      trivial⟩ ?_
  refine pt_then ?_
  refine ht_ret ?_
  obtain rfl := Option.some.inj h
  exact pt_ret hio rfl (.tmp _ _ .nil) rfl rfl

set_option maxHeartbeats 1000000 in
theorem ok_wherrykeep_Twin (l : (List Int)) (r : (List Int)) (h : Sh.wherrykeep_Twin l = some r) : FnOK Try.prog 10 [.fl .shr 1 (List.map (Value.int .u8) l)] (.fl (.own 5) 1 (List.map (Value.int .u8) r)) := by
  unfold Sh.wherrykeep_Twin at h
  refine fn_ok Try.func10 rfl (Nat.le_of_ble_eq_true rfl) rfl rfl fun g0 hn hio => ?_
  refine ht_seq ?_
  refine ht_seqR hn (El := [_, (2, .v (.slice none 0 0))]) (init := [0]) (fin := [0]) (sps := [⟨[], [], [1], [(.slot 2)]⟩]) (es' := [(_, _)]) (by kernel_rfl) rfl rfl
    ⟨st_plain rfl (op_assign _ _ _ _ rfl rfl),
      trivial⟩ ?_
  refine pt_then ?_
  refine ht_seq ?_
  refine ht_seqR hn (El := [_, (3, .v (.slice none 0 0))]) (init := [0]) (fin := [0, 1]) (sps := [⟨[], [], [1], [(.slot 3)]⟩]) (es' := [(_, _), (3, .v (.slice none 0 0))]) (by kernel_rfl) rfl rfl
    ⟨st_plain rfl (op_assign _ _ _ _ rfl rfl),
      trivial⟩ ?_
  refine pt_then ?_
  refine ht_seq ?_
  obtain ⟨v1, hv1, h⟩ := bind_some h
  refine ht_seqR hn (El := [_, _, (4, .v (.slice none 0 0)), (5, .fl .shr 1 (List.map (Value.int .u8) l)), (6, .fl (.own 5) 1 (List.map (Value.int .u8) v1)), (2, .fl (.own 5) 1 (List.map (Value.int .u8) v1))]) (init := [0, 1]) (fin := [5]) (sps := [⟨[1], [], [2], [(.slot 4)]⟩, ⟨[0], [], [3], [(.slot 5)]⟩, ⟨[2, 3], [], [4], [(.slot 6)]⟩, ⟨[], [4], [5], [(.slot 2)]⟩]) (es' := [(2, .fl (.own 5) 1 (List.map (Value.int .u8) v1))]) (by kernel_rfl) rfl rfl
    ⟨st_plain rfl (op_move _ _ _ _ rfl rfl),
      st_plain rfl (op_move _ _ _ _ rfl rfl),
      st_plain rfl (op_app_nil _ _ _ _ el23 rfl rfl (map_len _) hv1 (congrArg (List.map _) (app_nil_eq hv1))),
      st_plain rfl (op_assign_take _ _ _ _ rfl),
      trivial⟩ ?_
  refine pt_then ?_
  refine ht_ret ?_
  obtain rfl := Option.some.inj h
  exact pt_ret hio rfl (.tmp _ _ .nil) rfl rfl

set_option maxHeartbeats 1000000 in
theorem ok_canon_valid (lengths : (List Int)) (r : Bool) (h : Sh.canon_valid lengths = some r) : FnOK Try.prog 30 [.fl .shr 1 (List.map (Value.int .i64) lengths)] (.v (.bool r)) := by
  unfold Sh.canon_valid at h
  refine fn_ok Try.func30 rfl (Nat.le_of_ble_eq_true rfl) rfl rfl fun g0 hn hio => ?_
  refine ht_seq ?_
  refine ht_seqR hn (El := [_, (2, .v (.bool false))]) (init := [0]) (fin := [0]) (sps := [⟨[], [], [1], [(.slot 2)]⟩]) (es' := [(_, _)]) (by kernel_rfl) rfl rfl
    ⟨st_plain rfl (op_assign _ _ _ _ rfl rfl),
      trivial⟩ ?_
  refine pt_then ?_
  refine ht_seq ?_
  refine ht_seq ?_
  refine ht_seqR hn (El := [_, (5, .fl .shr 1 (List.map (Value.int .i64) lengths)), (6, .v (.int .i64 (lengths.length : Int))), (7, .v (.bool ((decide (300 < (lengths.length : Int))))))]) (init := [0]) (fin := [0, 3]) (sps := [⟨[0], [], [1], [(.slot 5)]⟩, ⟨[1], [], [2], [(.slot 6)]⟩, ⟨[2], [], [3], [(.slot 7)]⟩]) (es' := [(_, _), (7, .v (.bool ((decide (300 < (lengths.length : Int))))))]) (by kernel_rfl) rfl rfl
    ⟨st_plain rfl (op_move _ _ _ _ rfl rfl),
      st_plain rfl (op_len_fl _ _ _ Try.underlying22 rfl (by decide) (map_len _)),
      st_plain rfl (op_bin _ _ _ _ _ rfl rfl rfl),
      trivial⟩ ?_
  refine pt_then ?_
  refine ht_cond _ rfl (fun hb1 => ?_) (fun hb1 => ?_)
  · have h := cond_t hb1 h
    refine ht_seq ?_
    refine ht_seqR hn (El := [_, _, (2, .v (.bool false))]) (init := [0, 1]) (fin := [2]) (sps := [⟨[], [], [2], [(.slot 2)]⟩]) (es' := [(2, .v (.bool false))]) (by kernel_rfl) rfl rfl
      ⟨st_plain rfl (op_assign _ _ _ _ rfl rfl),
        trivial⟩ ?_
    refine pt_then ?_
    refine ht_ret ?_
    refine pt_r_then ?_
    obtain rfl := Option.some.inj h
    exact pt_ret hio rfl (.tmp _ _ .nil) rfl rfl
  · have h := cond_f hb1 h
    refine ht_skip ?_
    refine pt_then ?_
    refine ht_seq ?_
    refine ht_seq ?_
    refine ht_seqR hn (El := [_, _, (8, .fl .shr 1 (List.map (Value.int .i64) lengths)), (9, .v (.int .i64 (lengths.length : Int))), (10, .v (.int .i64 0))]) (init := [0, 1]) (fin := [2, 3, 4]) (sps := [⟨[0], [], [2], [(.slot 8)]⟩, ⟨[2], [], [3], [(.slot 9)]⟩, ⟨[], [], [4], [(.slot 10)]⟩]) (es' := [(8, .fl .shr 1 (List.map (Value.int .i64) lengths)), (9, .v (.int .i64 (lengths.length : Int))), (10, .v (.int .i64 0))]) (by kernel_rfl) rfl rfl
      ⟨st_plain rfl (op_move _ _ _ _ rfl rfl),
        st_plain rfl (op_len_fl _ _ _ Try.underlying22 rfl (by decide) (map_len _)),
        st_plain rfl (op_move _ _ _ _ rfl rfl),
        trivial⟩ ?_
    refine pt_then ?_
    refine ht_loopS h (fun (s18 : Int) => [(8, .fl .shr 1 (List.map (Value.int .i64) lengths)), (9, .v (.int .i64 (lengths.length : Int))), (10, .v (.int .i64 s18))]) (fun (() : Unit) => []) ?_ ?_
    · rintro ⟨⟩ h
      refine pt_then ?_
      refine ht_seq ?_
      refine ht_seqR hn (El := [(2, .v (.bool true))]) (init := []) (fin := [0]) (sps := [⟨[], [], [0], [(.slot 2)]⟩]) (es' := [(2, .v (.bool true))]) (by kernel_rfl) rfl rfl
        ⟨st_plain rfl (op_assign _ _ _ _ rfl rfl),
          trivial⟩ ?_
      refine pt_then ?_
      refine ht_ret ?_
      obtain rfl := Option.some.inj h
      exact pt_ret hio rfl (.tmp _ _ .nil) rfl rfl
    · rintro u25 hl26 hr27 s18 rr30 h ho28
      refine ht_seq ?_
      refine ht_seqR hn (El := [_, _, _, (11, .v (.bool ((decide (s18 < (lengths.length : Int))))))]) (init := [0, 1, 2]) (fin := [0, 1, 2, 3]) (sps := [⟨[2, 1], [], [3], [(.slot 11)]⟩]) (es' := [(_, _), (_, _), (_, _), (11, .v (.bool ((decide (s18 < (lengths.length : Int))))))]) (by kernel_rfl) rfl rfl
        ⟨st_plain rfl (op_bin _ _ _ _ _ rfl rfl rfl),
          trivial⟩ ?_
      refine pt_then ?_
      refine ht_seq ?_
      refine ht_cond _ rfl (fun hb31 => ?_) (fun hb31 => ?_)
      · have h := cond_t hb31 h
        refine ht_skip ?_
        refine pt_then ?_
        refine ht_seq ?_
        refine ht_block ?_
        refine ht_seq ?_
        obtain ⟨v3, hv3, h⟩ := bind_some h
        obtain ⟨v4, hv4, h⟩ := bind_some h
        refine ht_seqR hn (El := [_, _, _, _, (12, .eref (.slot 8) (v3 * 1)), (13, .v (.int .i64 v4)), (4, .v (.int .i64 v4))]) (init := [0, 1, 2, 3]) (fin := [0, 1, 2, 6]) (sps := [⟨[0, 2], [], [4], [(.slot 12)]⟩, ⟨[4, 0], [], [5], [(.slot 13)]⟩, ⟨[5], [], [6], [(.slot 4)]⟩]) (es' := [(_, _), (_, _), (_, _), (4, .v (.int .i64 v4))]) (by kernel_rfl) rfl rfl
          ⟨st_plain rfl (op_ix _ _ _ _ _ _ _ _ Try.underlying22 sz3 (by decide) rfl rfl rfl (ix_ok hv3).1 (map_lt (ix_ok hv3).2) rfl),
            st_plain rfl (op_load_e _ _ _ _ _ _ Try.underlying3 rfl rfl rfl (map_get hv4)),
            st_plain rfl (op_assign _ _ _ _ rfl rfl),
            trivial⟩ ?_
        refine pt_then ?_
        refine ht_seq ?_
        refine ht_joinS h (fun (s32 : Bool) => [(8, .fl .shr 1 (List.map (Value.int .i64) lengths)), (9, .v (.int .i64 (lengths.length : Int))), (10, .v (.int .i64 s18)), (19, .v (.bool s32))]) ?_ ?_
        · rintro s32 h
          refine pt_then ?_
          refine ht_cond _ rfl (fun hb36 => ?_) (fun hb36 => ?_)
          · have h := cond_t hb36 h
            refine ht_seq ?_
            refine ht_seqR hn (El := [_, _, _, _, (2, .v (.bool false))]) (init := [0, 1, 2, 3]) (fin := [4]) (sps := [⟨[], [], [4], [(.slot 2)]⟩]) (es' := [(2, .v (.bool false))]) (by kernel_rfl) rfl rfl
              ⟨st_plain rfl (op_assign _ _ _ _ rfl rfl),
                trivial⟩ ?_
            refine pt_then ?_
            refine ht_ret ?_
            refine pt_r_in ?_
            refine pt_r_then ?_
            refine pt_r_then ?_
            refine pt_r_in ?_
            refine pt_r_then ?_
            have h := hr27 _ (ho28 _ (Option.some.inj h).symm).symm
            obtain rfl := Option.some.inj h
            exact pt_ret hio rfl (.tmp _ _ .nil) rfl rfl
          · have h := cond_f hb36 h
            refine ht_skip ?_
            refine pt_inb ?_
            refine pt_then ?_
            obtain ⟨v10, hv10, h⟩ := bind_some h
            refine ht_seqR hn (El := [_, _, _, _, (20, .v (.int .i64 v10)), (10, .v (.int .i64 v10))]) (init := [0, 1, 2, 3]) (fin := [0, 1, 5]) (sps := [⟨[2], [], [4], [(.slot 20)]⟩, ⟨[4], [2], [5], [(.slot 10)]⟩]) (es' := [(_, _), (_, _), (10, .v (.int .i64 v10))]) (by kernel_rfl) rfl rfl
              ⟨st_plain rfl (op_bin _ _ _ _ _ rfl rfl (ibind (f := Value.int .i64) (Option.some.inj hv10))),
                st_plain rfl (LOp.drop [_] (op_move _ _ _ _ rfl rfl)),
                trivial⟩ ?_
            exact pt_next _ (Option.some.inj h).symm rfl
        · intro u33 h hl34 hr35
          refine cond_some h (fun hg6_2 h => ?_) (fun hg6_2 h => ?_)
          · refine ht_seqR hn (El := [_, _, _, _, (14, .v (.int .i64 v4)), (15, .v (.bool ((decide (v4 < 0))))), (16, .v (.bool true)), (17, .v undef), (18, .v undef), (19, .v (.bool true))]) (init := [0, 1, 2, 3]) (fin := [0, 1, 2, 9]) (sps := [⟨[3], [], [4], [(.slot 14)]⟩, ⟨[4], [], [5], [(.slot 15)]⟩, ⟨[5], [], [6], [(.slot 16)]⟩, ⟨[6], [], [7], [(.slot 17)]⟩, ⟨[6], [], [8], [(.slot 18)]⟩, ⟨[6], [], [9], [(.slot 19)]⟩]) (es' := [(_, _), (_, _), (_, _), (19, .v (.bool true))]) (by kernel_rfl) rfl rfl
              ⟨st_plain rfl (op_move _ _ _ _ rfl rfl),
                st_plain rfl (op_bin _ _ _ _ _ rfl rfl rfl),
                st_plain rfl (op_move _ _ _ _ (congrArg (fun b => AV.v (Value.bool b)) hg6_2) rfl),
                st_skip 2 16 _ false rfl rfl rfl rfl (List.Mem.head _),
                st_skip 2 16 _ false rfl rfl rfl rfl (List.Mem.head _),
                st_plain rfl (op_pick _ _ true _ rfl rfl),
                trivial⟩ ?_
            exact hl34 _ (Option.some.inj h).symm
          · refine ht_seqR hn (El := [_, _, _, _, (14, .v (.int .i64 v4)), (15, .v (.bool ((decide (v4 < 0))))), (16, .v (.bool false)), (17, .v (.int .i64 v4)), (18, .v (.bool ((decide (15 < v4))))), (19, .v (.bool ((decide (15 < v4)))))]) (init := [0, 1, 2, 3]) (fin := [0, 1, 2, 9]) (sps := [⟨[3], [], [4], [(.slot 14)]⟩, ⟨[4], [], [5], [(.slot 15)]⟩, ⟨[5], [], [6], [(.slot 16)]⟩, ⟨[6, 3], [], [7], [(.slot 17)]⟩, ⟨[6, 7], [], [8], [(.slot 18)]⟩, ⟨[6, 8], [], [9], [(.slot 19)]⟩]) (es' := [(_, _), (_, _), (_, _), (19, .v (.bool ((decide (15 < v4)))))]) (by kernel_rfl) rfl rfl
              ⟨st_plain rfl (op_move _ _ _ _ rfl rfl),
                st_plain rfl (op_bin _ _ _ _ _ rfl rfl rfl),
                st_plain rfl (op_move _ _ _ _ (congrArg (fun b => AV.v (Value.bool b)) hg6_2) rfl),
                st_run 2 16 false rfl rfl rfl (List.Mem.head _) (op_move _ _ _ _ rfl rfl),
                st_run 2 16 false rfl rfl rfl (List.Mem.head _) (op_bin _ _ _ _ _ rfl rfl rfl),
                st_plain rfl (op_pick _ _ false _ rfl rfl),
                trivial⟩ ?_
            exact hl34 _ (Option.some.inj h).symm
      · have h := cond_f hb31 h
        refine ht_exit ?_
        refine pt_x_then ?_
        refine pt_x_then ?_
        refine pt_x_in ?_
        refine pt_pick [] (by kernel_rfl) (es' := []) rfl ?_
        exact hl26 _ (ho28 _ (Option.some.inj h).symm).symm

set_option maxHeartbeats 1000000 in
theorem ok_canon_count (lengths : (List Int)) (r : (List Int)) (h : Sh.canon_count lengths = some r) : FnOK Try.prog 25 [.fl .shr 1 (List.map (Value.int .i64) lengths)] (.v (.agg (List.map (Value.int .i64) r).toArray)) := by
  unfold Sh.canon_count at h
  refine fn_ok Try.func25 rfl (Nat.le_of_ble_eq_true rfl) rfl rfl fun g0 hn hio => ?_
  refine ht_seq ?_
  refine ht_seqR hn (El := [_, (2, .arr 47 (List.map (Value.int .i64) ((List.replicate 16 (0 : Int)))))]) (init := [0]) (fin := [0, 1]) (sps := [⟨[], [], [1], [(.slot 2)]⟩]) (es' := [(_, _), (2, .arr 47 (List.map (Value.int .i64) ((List.replicate 16 (0 : Int)))))]) (by kernel_rfl) rfl rfl
    ⟨st_plain rfl (op_alloc_arr _ za47),
      trivial⟩ ?_
  refine pt_then ?_
  refine ht_seq ?_
  refine ht_seqR hn (El := [_, _, (3, .arr 47 (List.map (Value.int .i64) ((List.replicate 16 (0 : Int)))))]) (init := [0, 1]) (fin := [0, 1, 2]) (sps := [⟨[], [], [2], [(.slot 3)]⟩]) (es' := [(_, _), (_, _), (3, .arr 47 (List.map (Value.int .i64) ((List.replicate 16 (0 : Int)))))]) (by kernel_rfl) rfl rfl
    ⟨st_plain rfl (op_alloc_arr _ za47),
      trivial⟩ ?_
  refine pt_then ?_
  refine ht_seq ?_
  refine ht_seq ?_
  refine ht_seqR hn (El := [_, _, _, (6, .fl .shr 1 (List.map (Value.int .i64) lengths)), (7, .v (.int .i64 (lengths.length : Int))), (8, .v (.int .i64 0))]) (init := [0, 1, 2]) (fin := [1, 2, 3, 4, 5]) (sps := [⟨[0], [], [3], [(.slot 6)]⟩, ⟨[3], [], [4], [(.slot 7)]⟩, ⟨[], [], [5], [(.slot 8)]⟩]) (es' := [(_, _), (_, _), (6, .fl .shr 1 (List.map (Value.int .i64) lengths)), (7, .v (.int .i64 (lengths.length : Int))), (8, .v (.int .i64 0))]) (by kernel_rfl) rfl rfl
    ⟨st_plain rfl (op_move _ _ _ _ rfl rfl),
      st_plain rfl (op_len_fl _ _ _ Try.underlying22 rfl (by decide) (map_len _)),
      st_plain rfl (op_move _ _ _ _ rfl rfl),
      trivial⟩ ?_
  refine pt_then ?_
  refine ht_loopS h (fun ((s25, s26) : (List Int) × Int) => [(2, .arr 47 (List.map (Value.int .i64) ((List.replicate 16 (0 : Int))))), (3, .arr 47 (List.map (Value.int .i64) s25)), (6, .fl .shr 1 (List.map (Value.int .i64) lengths)), (7, .v (.int .i64 (lengths.length : Int))), (8, .v (.int .i64 s26))]) (fun (s34 : (List Int)) => [(2, .arr 47 (List.map (Value.int .i64) ((List.replicate 16 (0 : Int))))), (3, .arr 47 (List.map (Value.int .i64) s34))]) ?_ ?_
  · rintro s34 h
    refine pt_then ?_
    refine ht_seq ?_
    obtain ⟨v48, hv48, h⟩ := bind_some h
    obtain ⟨v49, hv49, h⟩ := bind_some h
    obtain ⟨v50, hv50, h⟩ := bind_some h
    refine ht_seqR hn (El := [_, _, (20, .v (.agg (List.map (Value.int .i64) s34).toArray)), (2, .arr 47 (List.map (Value.int .i64) s34))]) (init := [0, 1]) (fin := [3]) (sps := [⟨[1], [], [2], [(.slot 20)]⟩, ⟨[2], [0], [3], []⟩]) (es' := [(2, .arr 47 (List.map (Value.int .i64) s34))]) (by kernel_rfl) rfl rfl
      ⟨st_plain rfl (op_loadA_arr _ _ _ _ Try.underlying47 rfl (sz47.trans (congrArg some (ln_len hv48))) rfl rfl),
        st_plain rfl (op_storeA_arr _ _ _ _ (sz47.trans (congrArg some (ln_len hv50))) rfl rfl (ln_ones (fun _ => rfl) _) ((ln_len (f := Value.int .i64) hv49).symm.trans (ln_len (f := Value.int .i64) hv50))),
        trivial⟩ ?_
    refine pt_then ?_
    refine ht_ret ?_
    obtain ⟨v51, hv51, h⟩ := bind_some h
    obtain rfl := Option.some.inj h
    exact pt_ret hio rfl (.cellR _ _ _ _ Try.underlying47 rfl (sz47.trans (congrArg some (ln_len hv51))) .nil) rfl rfl
  · rintro u35 hl36 hr37 ⟨s25, s26⟩ rr40 h ho38
    refine ht_seq ?_
    refine ht_seqR hn (El := [_, _, _, _, _, (9, .v (.bool ((decide (s26 < (lengths.length : Int))))))]) (init := [0, 1, 2, 3, 4]) (fin := [0, 1, 2, 3, 4, 5]) (sps := [⟨[4, 3], [], [5], [(.slot 9)]⟩]) (es' := [(_, _), (_, _), (_, _), (_, _), (_, _), (9, .v (.bool ((decide (s26 < (lengths.length : Int))))))]) (by kernel_rfl) rfl rfl
      ⟨st_plain rfl (op_bin _ _ _ _ _ rfl rfl rfl),
        trivial⟩ ?_
    refine pt_then ?_
    refine ht_seq ?_
    refine ht_cond _ rfl (fun hb41 => ?_) (fun hb41 => ?_)
    · have h := cond_t hb41 h
      refine ht_skip ?_
      refine pt_then ?_
      refine ht_seq ?_
      refine ht_joinS h (fun (s43 : (List Int)) => [(2, .arr 47 (List.map (Value.int .i64) ((List.replicate 16 (0 : Int))))), (3, .arr 47 (List.map (Value.int .i64) s43)), (6, .fl .shr 1 (List.map (Value.int .i64) lengths)), (7, .v (.int .i64 (lengths.length : Int))), (8, .v (.int .i64 s26))]) ?_ ?_
      · rintro s43 h
        refine pt_then ?_
        obtain ⟨v15, hv15, h⟩ := bind_some h
        refine ht_seqR hn (El := [_, _, _, _, _, (19, .v (.int .i64 v15)), (8, .v (.int .i64 v15))]) (init := [0, 1, 2, 3, 4]) (fin := [0, 1, 2, 3, 6]) (sps := [⟨[4], [], [5], [(.slot 19)]⟩, ⟨[5], [4], [6], [(.slot 8)]⟩]) (es' := [(_, _), (_, _), (_, _), (_, _), (8, .v (.int .i64 v15))]) (by kernel_rfl) rfl rfl
          ⟨st_plain rfl (op_bin _ _ _ _ _ rfl rfl (ibind (f := Value.int .i64) (Option.some.inj hv15))),
            st_plain rfl (LOp.drop [_] (op_move _ _ _ _ rfl rfl)),
            trivial⟩ ?_
        exact pt_next _ (Option.some.inj h).symm rfl
      · intro u44 h hl45 hr46
        refine ht_block ?_
        refine ht_seq ?_
        obtain ⟨v2, hv2, h⟩ := bind_some h
        obtain ⟨v3, hv3, h⟩ := bind_some h
        refine ht_seqR hn (El := [_, _, _, _, _, _, (10, .eref (.slot 6) (v2 * 1)), (11, .v (.int .i64 v3)), (5, .v (.int .i64 v3))]) (init := [0, 1, 2, 3, 4, 5]) (fin := [0, 1, 2, 3, 4, 8]) (sps := [⟨[2, 4], [], [6], [(.slot 10)]⟩, ⟨[6, 2], [], [7], [(.slot 11)]⟩, ⟨[7], [], [8], [(.slot 5)]⟩]) (es' := [(_, _), (_, _), (_, _), (_, _), (_, _), (5, .v (.int .i64 v3))]) (by kernel_rfl) rfl rfl
          ⟨st_plain rfl (op_ix _ _ _ _ _ _ _ _ Try.underlying22 sz3 (by decide) rfl rfl rfl (ix_ok hv2).1 (map_lt (ix_ok hv2).2) rfl),
            st_plain rfl (op_load_e _ _ _ _ _ _ Try.underlying3 rfl rfl rfl (map_get hv3)),
            st_plain rfl (op_assign _ _ _ _ rfl rfl),
            trivial⟩ ?_
        refine pt_then ?_
        refine ht_seq ?_
        refine ht_seqR hn (El := [_, _, _, _, _, _, (12, .v (.int .i64 v3)), (13, .v (.bool ((decide (0 < v3)))))]) (init := [0, 1, 2, 3, 4, 5]) (fin := [0, 1, 2, 3, 4, 5, 7]) (sps := [⟨[5], [], [6], [(.slot 12)]⟩, ⟨[6], [], [7], [(.slot 13)]⟩]) (es' := [(_, _), (_, _), (_, _), (_, _), (_, _), (_, _), (13, .v (.bool ((decide (0 < v3)))))]) (by kernel_rfl) rfl rfl
          ⟨st_plain rfl (op_move _ _ _ _ rfl rfl),
            st_plain rfl (op_bin _ _ _ _ _ rfl rfl rfl),
            trivial⟩ ?_
        refine pt_then ?_
        refine ht_cond _ rfl (fun hb47 => ?_) (fun hb47 => ?_)
        · have h := cond_t hb47 h
          obtain ⟨v5, hv5, h⟩ := bind_some h
          obtain ⟨v6, hv6, h⟩ := bind_some h
          obtain ⟨v7, hv7, h⟩ := bind_some h
          obtain ⟨v8, hv8, h⟩ := bind_some h
          obtain ⟨v9, hv9, h⟩ := bind_some h
          refine ht_seqR hn (El := [_, _, _, _, _, _, _, (14, .v (.int .i64 v3)), (15, .ptr 3 v5), (16, .v (.int .i64 v6)), (17, .v (.int .i64 v7)), (18, .ptr 3 v8), (3, .arr 47 (List.map (Value.int .i64) v9))]) (init := [0, 1, 2, 3, 4, 5, 6]) (fin := [0, 12, 2, 3, 4]) (sps := [⟨[5], [], [7], [(.slot 14)]⟩, ⟨[1, 7], [], [8], [(.slot 15)]⟩, ⟨[8, 1], [], [9], [(.slot 16)]⟩, ⟨[9], [], [10], [(.slot 17)]⟩, ⟨[1, 7], [], [11], [(.slot 18)]⟩, ⟨[11, 10], [1], [12], []⟩]) (es' := [(_, _), (3, .arr 47 (List.map (Value.int .i64) v9)), (_, _), (_, _), (_, _)]) (by kernel_rfl) rfl rfl
            ⟨st_plain rfl (op_move _ _ _ _ rfl rfl),
              st_plain rfl (op_ix_arr _ _ _ _ 16 3 _ Try.underlying47 sz3 rfl rfl (ix_ok hv5).1 (ix_ok hv5).2 (by decide)),
              st_plain rfl (op_load_arr _ _ _ _ _ _ Try.underlying3 rfl rfl rfl (map_get1 hv6)),
              st_plain rfl (op_bin _ _ _ _ _ rfl rfl (ibind (f := Value.int .i64) (Option.some.inj hv7))),
              st_plain rfl (op_ix_arr _ _ _ _ 16 3 _ Try.underlying47 sz3 rfl rfl (ix_ok hv8).1 (ix_ok hv8).2 (by decide)),
              st_plain rfl (op_store_arr _ _ _ _ _ _ sz3 rfl rfl rfl rfl (set_lt hv9) (set_eq (f := Value.int .i64) hv9)),
              trivial⟩ ?_
          refine pt_inb ?_
          exact hl45 _ (Option.some.inj h).symm
        · have h := cond_f hb47 h
          refine ht_skip ?_
          refine pt_inb ?_
          refine pt_pick [0, 1, 2, 3, 4] (by kernel_rfl) (es' := [(_, _), (_, _), (_, _), (_, _), (_, _)]) rfl ?_
          exact hl45 _ (Option.some.inj h).symm
    · have h := cond_f hb41 h
      refine ht_exit ?_
      refine pt_x_then ?_
      refine pt_x_then ?_
      refine pt_x_in ?_
      refine pt_pick [0, 1] (by kernel_rfl) (es' := [(_, _), (_, _)]) rfl ?_
      exact hl36 _ (ho38 _ (Option.some.inj h).symm).symm

set_option maxHeartbeats 1000000 in
theorem ok_canon_tally_weight (c : (List Int)) (r : Int) (h : Sh.canon_tally_weight c = some r) : FnOK Try.prog 34 [.v (.agg (List.map (Value.int .i64) c).toArray)] (.v (.int .i64 r)) := by
  unfold Sh.canon_tally_weight at h
  refine fn_ok Try.func34 rfl (Nat.le_of_ble_eq_true rfl) rfl rfl fun g0 hn hio => ?_
  refine ht_seq ?_
  refine ht_seqR hn (El := [_, (1, .arr 47 (List.map (Value.int .i64) c)), (2, .v (.int .i64 0))]) (init := [0]) (fin := [1]) (sps := [⟨[0], [], [1], [(.slot 1)]⟩, ⟨[], [], [2], [(.slot 2)]⟩]) (es' := [(1, .arr 47 (List.map (Value.int .i64) c))]) (by kernel_rfl) rfl rfl
    ⟨st_plain rfl (op_box_arr _ _ _ rfl),
      st_plain rfl (op_assign _ _ _ _ rfl rfl),
      trivial⟩ ?_
  refine pt_then ?_
  refine ht_seq ?_
  refine ht_seqR hn (El := [_, (3, .v (.int .i64 0))]) (init := [0]) (fin := [0, 1]) (sps := [⟨[], [], [1], [(.slot 3)]⟩]) (es' := [(_, _), (3, .v (.int .i64 0))]) (by kernel_rfl) rfl rfl
    ⟨st_plain rfl (op_assign _ _ _ _ rfl rfl),
      trivial⟩ ?_
  refine pt_then ?_
  refine ht_seq ?_
  refine ht_seq ?_
  obtain ⟨v1, hv1, h⟩ := bind_some h
  refine ht_seqR hn (El := [_, _, (6, .v (.agg (List.map (Value.int .i64) c).toArray)), (7, .v (.int .i64 0))]) (init := [0, 1]) (fin := [1, 2, 3]) (sps := [⟨[0], [], [2], [(.slot 6)]⟩, ⟨[], [], [3], [(.slot 7)]⟩]) (es' := [(_, _), (6, .v (.agg (List.map (Value.int .i64) c).toArray)), (7, .v (.int .i64 0))]) (by kernel_rfl) rfl rfl
    ⟨st_plain rfl (op_loadA_arr _ _ _ _ Try.underlying47 rfl (sz47.trans (congrArg some (ln_len hv1))) rfl rfl),
      st_plain rfl (op_move _ _ _ _ rfl rfl),
      trivial⟩ ?_
  refine pt_then ?_
  refine ht_loopS h (fun ((s12, s13) : Int × Int) => [(3, .v (.int .i64 s12)), (6, .v (.agg (List.map (Value.int .i64) c).toArray)), (7, .v (.int .i64 s13))]) (fun (s15 : Int) => [(3, .v (.int .i64 s15))]) ?_ ?_
  · rintro s15 h
    refine pt_then ?_
    refine ht_seq ?_
    refine ht_seqR hn (El := [_, (18, .v (.int .i64 s15)), (2, .v (.int .i64 s15))]) (init := [0]) (fin := [2]) (sps := [⟨[0], [], [1], [(.slot 18)]⟩, ⟨[1], [], [2], [(.slot 2)]⟩]) (es' := [(2, .v (.int .i64 s15))]) (by kernel_rfl) rfl rfl
      ⟨st_plain rfl (op_move _ _ _ _ rfl rfl),
        st_plain rfl (op_assign _ _ _ _ rfl rfl),
        trivial⟩ ?_
    refine pt_then ?_
    refine ht_ret ?_
    obtain rfl := Option.some.inj h
    exact pt_ret hio rfl (.tmp _ _ .nil) rfl rfl
  · rintro u16 hl17 hr18 ⟨s12, s13⟩ rr21 h ho19
    refine ht_seq ?_
    refine ht_seqR hn (El := [_, _, _, (8, .v (.bool ((decide (s13 < 16)))))]) (init := [0, 1, 2]) (fin := [0, 1, 2, 3]) (sps := [⟨[2], [], [3], [(.slot 8)]⟩]) (es' := [(_, _), (_, _), (_, _), (8, .v (.bool ((decide (s13 < 16)))))]) (by kernel_rfl) rfl rfl
      ⟨st_plain rfl (op_bin _ _ _ _ _ rfl rfl rfl),
        trivial⟩ ?_
    refine pt_then ?_
    refine ht_seq ?_
    refine ht_cond _ rfl (fun hb22 => ?_) (fun hb22 => ?_)
    · have h := cond_t hb22 h
      refine ht_skip ?_
      refine pt_then ?_
      refine ht_seq ?_
      refine ht_block ?_
      refine ht_seq ?_
      obtain ⟨v3, hv3, h⟩ := bind_some h
      obtain ⟨v4, hv4, h⟩ := bind_some h
      refine ht_seqR hn (El := [_, _, _, _, (9, .v (.int .i64 s13)), (10, .v (.int .i64 v4)), (4, .v (.int .i64 s13)), (5, .v (.int .i64 v4))]) (init := [0, 1, 2, 3]) (fin := [0, 1, 2, 6, 7]) (sps := [⟨[2], [], [4], [(.slot 9)]⟩, ⟨[1, 2], [], [5], [(.slot 10)]⟩, ⟨[4], [], [6], [(.slot 4)]⟩, ⟨[5], [], [7], [(.slot 5)]⟩]) (es' := [(_, _), (_, _), (_, _), (4, .v (.int .i64 s13)), (5, .v (.int .i64 v4))]) (by kernel_rfl) rfl rfl
        ⟨st_plain rfl (op_move _ _ _ _ rfl rfl),
          st_plain rfl (op_index_arr _ _ _ _ 16 v3 Try.underlying47 sz3 rfl (congrArg (fun j => AV.v (Value.int .i64 j)) (ix_ok hv3).1) (ix_ok hv3).2 (map_get1 hv4) ⟨_, Try.underlying3, rfl⟩),
          st_plain rfl (op_assign _ _ _ _ rfl rfl),
          st_plain rfl (op_assign _ _ _ _ rfl rfl),
          trivial⟩ ?_
      refine pt_then ?_
      obtain ⟨v5, hv5, h⟩ := bind_some h
      obtain ⟨v6, hv6, h⟩ := bind_some h
      obtain ⟨v7, hv7, h⟩ := bind_some h
      refine ht_seqR hn (El := [_, _, _, _, _, (11, .v (.int .i64 s12)), (12, .v (.int .i64 v4)), (13, .v (.int .i64 s13)), (14, .v (.int .i64 v5)), (15, .v (.int .i64 v6)), (16, .v (.int .i64 v7)), (3, .v (.int .i64 v7))]) (init := [0, 1, 2, 3, 4]) (fin := [1, 2, 11]) (sps := [⟨[0], [], [5], [(.slot 11)]⟩, ⟨[4], [], [6], [(.slot 12)]⟩, ⟨[3], [], [7], [(.slot 13)]⟩, ⟨[7], [], [8], [(.slot 14)]⟩, ⟨[6, 8], [], [9], [(.slot 15)]⟩, ⟨[5, 9], [], [10], [(.slot 16)]⟩, ⟨[10], [0], [11], [(.slot 3)]⟩]) (es' := [(_, _), (_, _), (3, .v (.int .i64 v7))]) (by kernel_rfl) rfl rfl
        ⟨st_plain rfl (op_move _ _ _ _ rfl rfl),
          st_plain rfl (op_move _ _ _ _ rfl rfl),
          st_plain rfl (op_move _ _ _ _ rfl rfl),
          st_plain rfl (op_bin _ _ _ _ _ rfl rfl (ibind (f := Value.int .i64) (Option.some.inj hv5))),
          st_plain rfl (op_bin _ _ _ _ _ rfl rfl (shl_ok hv6)),
          st_plain rfl (op_bin _ _ _ _ _ rfl rfl (ibind (f := Value.int .i64) (Option.some.inj hv7))),
          st_plain rfl (LOp.drop [_] (op_assign _ _ _ _ rfl rfl)),
          trivial⟩ ?_
      refine pt_inb ?_
      refine pt_then ?_
      obtain ⟨v8, hv8, h⟩ := bind_some h
      refine ht_seqR hn (El := [_, _, _, (17, .v (.int .i64 v8)), (7, .v (.int .i64 v8))]) (init := [0, 1, 2]) (fin := [0, 2, 4]) (sps := [⟨[1], [], [3], [(.slot 17)]⟩, ⟨[3], [1], [4], [(.slot 7)]⟩]) (es' := [(_, _), (_, _), (7, .v (.int .i64 v8))]) (by kernel_rfl) rfl rfl
        ⟨st_plain rfl (op_bin _ _ _ _ _ rfl rfl (ibind (f := Value.int .i64) (Option.some.inj hv8))),
          st_plain rfl (LOp.drop [_] (op_move _ _ _ _ rfl rfl)),
          trivial⟩ ?_
      refine pt_pick [1, 0, 2] (by kernel_rfl) (es' := [(_, _), (_, _), (_, _)]) rfl ?_
      exact pt_next _ (Option.some.inj h).symm rfl
    · have h := cond_f hb22 h
      refine ht_exit ?_
      refine pt_x_then ?_
      refine pt_x_then ?_
      refine pt_x_in ?_
      refine pt_pick [0] (by kernel_rfl) (es' := [(_, _)]) rfl ?_
      exact hl17 _ (ho19 _ (Option.some.inj h).symm).symm

set_option maxHeartbeats 1000000 in
theorem ok_canon_forms (c : (List Int)) (r : Bool) (h : Sh.canon_forms c = some r) : FnOK Try.prog 31 [.v (.agg (List.map (Value.int .i64) c).toArray)] (.v (.bool r)) := by
  unfold Sh.canon_forms at h
  refine fn_ok Try.func31 rfl (Nat.le_of_ble_eq_true rfl) rfl rfl fun g0 hn hio => ?_
  refine ht_seq ?_
  refine ht_seqR hn (El := [_, (1, .arr 47 (List.map (Value.int .i64) c)), (2, .v (.bool false))]) (init := [0]) (fin := [1]) (sps := [⟨[0], [], [1], [(.slot 1)]⟩, ⟨[], [], [2], [(.slot 2)]⟩]) (es' := [(1, .arr 47 (List.map (Value.int .i64) c))]) (by kernel_rfl) rfl rfl
    ⟨st_plain rfl (op_box_arr _ _ _ rfl),
      st_plain rfl (op_assign _ _ _ _ rfl rfl),
      trivial⟩ ?_
  refine pt_then ?_
  refine ht_seq ?_
  obtain ⟨v1, hv1, h⟩ := bind_some h
  obtain ⟨v2, hv2, h⟩ := bind_some h
  refine ht_seqR hn (El := [_, (4, .v (.agg (List.map (Value.int .i64) [(0 : Int), 1, (0 : Int), (0 : Int), (0 : Int), (0 : Int), (0 : Int), (0 : Int), (0 : Int), (0 : Int), (0 : Int), (0 : Int), (0 : Int), (0 : Int), (0 : Int), (0 : Int)]).toArray)), (3, .arr 47 (List.map (Value.int .i64) ((List.replicate 16 (0 : Int))))), (3, .arr 47 (List.map (Value.int .i64) [(0 : Int), 1, (0 : Int), (0 : Int), (0 : Int), (0 : Int), (0 : Int), (0 : Int), (0 : Int), (0 : Int), (0 : Int), (0 : Int), (0 : Int), (0 : Int), (0 : Int), (0 : Int)]))]) (init := [0]) (fin := [0, 3]) (sps := [⟨[], [], [1], [(.slot 4)]⟩, ⟨[], [], [2], [(.slot 3)]⟩, ⟨[1], [2], [3], []⟩]) (es' := [(_, _), (3, .arr 47 (List.map (Value.int .i64) [(0 : Int), 1, (0 : Int), (0 : Int), (0 : Int), (0 : Int), (0 : Int), (0 : Int), (0 : Int), (0 : Int), (0 : Int), (0 : Int), (0 : Int), (0 : Int), (0 : Int), (0 : Int)]))]) (by kernel_rfl) rfl rfl
    ⟨st_plain rfl (op_build_arr _ _ (.agg #[.int .i64 0, .int .i64 0, .int .i64 0, .int .i64 0, .int .i64 0, .int .i64 0, .int .i64 0, .int .i64 0, .int .i64 0, .int .i64 0, .int .i64 0, .int .i64 0, .int .i64 0, .int .i64 0, .int .i64 0, .int .i64 0]) (List.map (Value.int .i64) [(0 : Int), 1, (0 : Int), (0 : Int), (0 : Int), (0 : Int), (0 : Int), (0 : Int), (0 : Int), (0 : Int), (0 : Int), (0 : Int), (0 : Int), (0 : Int), (0 : Int), (0 : Int)]) [(1, .int .i64 1)] Try.underlying47 sz3 zr47 (fun _ V w o a hv hes => by simp only [List.map_toArray, List.map_cons, List.map_nil]; try rfl) (litfill (by simp [Instr.fill, Value.cells]; rfl) (by simp))),
      st_plain rfl (op_alloc_arr _ za47),
      st_plain rfl (op_storeA_arr _ _ _ _ (sz47.trans (congrArg some (ln_len hv2))) rfl rfl (ln_ones (fun _ => rfl) _) ((ln_len (f := Value.int .i64) hv1).symm.trans (ln_len (f := Value.int .i64) hv2))),
      trivial⟩ ?_
  refine pt_then ?_
  refine ht_seq ?_
  refine ht_joinS h (fun (s12 : Bool) => [(2, .v (.bool s12))]) ?_ ?_
  · rintro s12 h
    refine pt_then ?_
    refine ht_ret ?_
    obtain rfl := Option.some.inj h
    exact pt_ret hio rfl (.tmp _ _ .nil) rfl rfl
  · intro u13 h hl14 hr15
    obtain ⟨v3, hv3, h⟩ := bind_some h
    obtain ⟨v4, hv4, h⟩ := bind_some h
    obtain ⟨v5, hv5, h⟩ := bind_some h
    refine cond_some h (fun hg2_3 h => ?_) (fun hg2_3 h => ?_)
    · refine ht_seqR hn (El := (_ :: _ :: (5, .v (.agg (List.map (Value.int .i64) c).toArray)) :: (6, .v (.agg (List.map (Value.int .i64) [(0 : Int), (0 : Int), (0 : Int), (0 : Int), (0 : Int), (0 : Int), (0 : Int), (0 : Int), (0 : Int), (0 : Int), (0 : Int), (0 : Int), (0 : Int), (0 : Int), (0 : Int), (0 : Int)]).toArray)) :: (7, .v (.bool ((c == [(0 : Int), (0 : Int), (0 : Int), (0 : Int), (0 : Int), (0 : Int), (0 : Int), (0 : Int), (0 : Int), (0 : Int), (0 : Int), (0 : Int), (0 : Int), (0 : Int), (0 : Int), (0 : Int)])))) :: (8, .v (.bool true)) :: (9, .v undef) :: (10, .v undef) :: (11, .v undef) :: (12, .v (.bool true)) :: (13, .v (.bool true)) :: (14, .v undef) :: (15, .v undef) :: (16, .v undef) :: (17, .v (.bool true)) :: (2, .v (.bool true)) :: [])) (init := [0, 1]) (fin := [15]) (sps := [⟨[0], [], [2], [(.slot 5)]⟩, ⟨[], [], [3], [(.slot 6)]⟩, ⟨[2, 3], [], [4], [(.slot 7)]⟩, ⟨[4], [], [5], [(.slot 8)]⟩, ⟨[5], [], [6], [(.slot 9)]⟩, ⟨[5], [], [7], [(.slot 10)]⟩, ⟨[5], [], [8], [(.slot 11)]⟩, ⟨[5], [], [9], [(.slot 12)]⟩, ⟨[9], [], [10], [(.slot 13)]⟩, ⟨[10], [], [11], [(.slot 14)]⟩, ⟨[10], [], [12], [(.slot 15)]⟩, ⟨[10], [], [13], [(.slot 16)]⟩, ⟨[10], [], [14], [(.slot 17)]⟩, ⟨[14], [], [15], [(.slot 2)]⟩]) (es' := [(2, .v (.bool true))]) (by kernel_rfl) rfl rfl
        ⟨st_plain rfl (op_loadA_arr _ _ _ _ Try.underlying47 rfl (sz47.trans (congrArg some (ln_len hv3))) rfl rfl),
          st_plain rfl (op_build_arr _ _ (.agg #[.int .i64 0, .int .i64 0, .int .i64 0, .int .i64 0, .int .i64 0, .int .i64 0, .int .i64 0, .int .i64 0, .int .i64 0, .int .i64 0, .int .i64 0, .int .i64 0, .int .i64 0, .int .i64 0, .int .i64 0, .int .i64 0]) (List.map (Value.int .i64) [(0 : Int), (0 : Int), (0 : Int), (0 : Int), (0 : Int), (0 : Int), (0 : Int), (0 : Int), (0 : Int), (0 : Int), (0 : Int), (0 : Int), (0 : Int), (0 : Int), (0 : Int), (0 : Int)]) [] Try.underlying47 sz3 zr47 (fun _ V w o a hv hes => by simp only [List.map_toArray, List.map_cons, List.map_nil]; try rfl) (litfill (by simp [Instr.fill, Value.cells]; rfl) (by simp))),
          st_plain rfl (op_eq_arr _ _ _ Try.underlying47 Try.underlying3 (i := Try.t3) (by kernel_rfl) (by kernel_rfl) (by kernel_rfl) rfl rfl (ln_n hv4) (ln_n hv5) rfl),
          st_plain rfl (op_move _ _ _ _ (congrArg (fun b => AV.v (Value.bool b)) hg2_3) rfl),
          st_skip 3 8 _ false rfl rfl rfl rfl (List.Mem.head _),
          st_skip 3 8 _ false rfl rfl rfl rfl (List.Mem.head _),
          st_skip 3 8 _ false rfl rfl rfl rfl (List.Mem.head _),
          st_plain rfl (op_pick _ _ true _ rfl rfl),
          st_plain rfl (op_move _ _ _ _ rfl rfl),
          st_skip 8 13 _ false rfl rfl rfl rfl (List.Mem.head _),
          st_skip 8 13 _ false rfl rfl rfl rfl (List.Mem.head _),
          st_skip 8 13 _ false rfl rfl rfl rfl (List.Mem.head _),
          st_plain rfl (op_pick _ _ true _ rfl rfl),
          st_plain rfl (op_assign _ _ _ _ rfl rfl),
          trivial⟩ ?_
      exact hl14 _ (Option.some.inj h).symm
    · obtain ⟨v6, hv6, h⟩ := bind_some h
      obtain ⟨v7, hv7, h⟩ := bind_some h
      obtain ⟨v8, hv8, h⟩ := bind_some h
      obtain ⟨v9, hv9, h⟩ := bind_some h
      refine cond_some h (fun hg2_8 h => ?_) (fun hg2_8 h => ?_)
      · refine ht_seqR hn (El := (_ :: _ :: (5, .v (.agg (List.map (Value.int .i64) c).toArray)) :: (6, .v (.agg (List.map (Value.int .i64) [(0 : Int), (0 : Int), (0 : Int), (0 : Int), (0 : Int), (0 : Int), (0 : Int), (0 : Int), (0 : Int), (0 : Int), (0 : Int), (0 : Int), (0 : Int), (0 : Int), (0 : Int), (0 : Int)]).toArray)) :: (7, .v (.bool ((c == [(0 : Int), (0 : Int), (0 : Int), (0 : Int), (0 : Int), (0 : Int), (0 : Int), (0 : Int), (0 : Int), (0 : Int), (0 : Int), (0 : Int), (0 : Int), (0 : Int), (0 : Int), (0 : Int)])))) :: (8, .v (.bool false)) :: (9, .v (.agg (List.map (Value.int .i64) c).toArray)) :: (10, .v (.agg (List.map (Value.int .i64) [(0 : Int), 1, (0 : Int), (0 : Int), (0 : Int), (0 : Int), (0 : Int), (0 : Int), (0 : Int), (0 : Int), (0 : Int), (0 : Int), (0 : Int), (0 : Int), (0 : Int), (0 : Int)]).toArray)) :: (11, .v (.bool ((c == [(0 : Int), 1, (0 : Int), (0 : Int), (0 : Int), (0 : Int), (0 : Int), (0 : Int), (0 : Int), (0 : Int), (0 : Int), (0 : Int), (0 : Int), (0 : Int), (0 : Int), (0 : Int)])))) :: (12, .v (.bool ((c == [(0 : Int), 1, (0 : Int), (0 : Int), (0 : Int), (0 : Int), (0 : Int), (0 : Int), (0 : Int), (0 : Int), (0 : Int), (0 : Int), (0 : Int), (0 : Int), (0 : Int), (0 : Int)])))) :: (13, .v (.bool true)) :: (14, .v undef) :: (15, .v undef) :: (16, .v undef) :: (17, .v (.bool true)) :: (2, .v (.bool true)) :: [])) (init := [0, 1]) (fin := [15]) (sps := [⟨[0], [], [2], [(.slot 5)]⟩, ⟨[], [], [3], [(.slot 6)]⟩, ⟨[2, 3], [], [4], [(.slot 7)]⟩, ⟨[4], [], [5], [(.slot 8)]⟩, ⟨[5, 0], [], [6], [(.slot 9)]⟩, ⟨[5, 1], [], [7], [(.slot 10)]⟩, ⟨[5, 6, 7], [], [8], [(.slot 11)]⟩, ⟨[5, 8], [], [9], [(.slot 12)]⟩, ⟨[9], [], [10], [(.slot 13)]⟩, ⟨[10], [], [11], [(.slot 14)]⟩, ⟨[10], [], [12], [(.slot 15)]⟩, ⟨[10], [], [13], [(.slot 16)]⟩, ⟨[10], [], [14], [(.slot 17)]⟩, ⟨[14], [], [15], [(.slot 2)]⟩]) (es' := [(2, .v (.bool true))]) (by kernel_rfl) rfl rfl
          ⟨st_plain rfl (op_loadA_arr _ _ _ _ Try.underlying47 rfl (sz47.trans (congrArg some (ln_len hv3))) rfl rfl),
            st_plain rfl (op_build_arr _ _ (.agg #[.int .i64 0, .int .i64 0, .int .i64 0, .int .i64 0, .int .i64 0, .int .i64 0, .int .i64 0, .int .i64 0, .int .i64 0, .int .i64 0, .int .i64 0, .int .i64 0, .int .i64 0, .int .i64 0, .int .i64 0, .int .i64 0]) (List.map (Value.int .i64) [(0 : Int), (0 : Int), (0 : Int), (0 : Int), (0 : Int), (0 : Int), (0 : Int), (0 : Int), (0 : Int), (0 : Int), (0 : Int), (0 : Int), (0 : Int), (0 : Int), (0 : Int), (0 : Int)]) [] Try.underlying47 sz3 zr47 (fun _ V w o a hv hes => by simp only [List.map_toArray, List.map_cons, List.map_nil]; try rfl) (litfill (by simp [Instr.fill, Value.cells]; rfl) (by simp))),
            st_plain rfl (op_eq_arr _ _ _ Try.underlying47 Try.underlying3 (i := Try.t3) (by kernel_rfl) (by kernel_rfl) (by kernel_rfl) rfl rfl (ln_n hv4) (ln_n hv5) rfl),
            st_plain rfl (op_move _ _ _ _ (congrArg (fun b => AV.v (Value.bool b)) hg2_3) rfl),
            st_run 3 8 false rfl rfl rfl (List.Mem.head _) (op_loadA_arr _ _ _ _ Try.underlying47 rfl (sz47.trans (congrArg some (ln_len hv6))) rfl rfl),
            st_run 3 8 false rfl rfl rfl (List.Mem.head _) (op_loadA_arr _ _ _ _ Try.underlying47 rfl (sz47.trans (congrArg some (ln_len hv7))) rfl rfl),
            st_run 3 8 false rfl rfl rfl (List.Mem.head _) (op_eq_arr _ _ _ Try.underlying47 Try.underlying3 (i := Try.t3) (by kernel_rfl) (by kernel_rfl) (by kernel_rfl) rfl rfl (ln_n hv8) (ln_n hv9) rfl),
            st_plain rfl (op_pick _ _ false _ rfl rfl),
            st_plain rfl (op_move _ _ _ _ (congrArg (fun b => AV.v (Value.bool b)) hg2_8) rfl),
            st_skip 8 13 _ false rfl rfl rfl rfl (List.Mem.head _),
            st_skip 8 13 _ false rfl rfl rfl rfl (List.Mem.head _),
            st_skip 8 13 _ false rfl rfl rfl rfl (List.Mem.head _),
            st_plain rfl (op_pick _ _ true _ rfl rfl),
            st_plain rfl (op_assign _ _ _ _ rfl rfl),
            trivial⟩ ?_
        exact hl14 _ (Option.some.inj h).symm
      · obtain ⟨v10, hv10, h⟩ := bind_some h
        obtain ⟨v11, hv11, h⟩ := bind_some h
        refine ht_seqR hn (El := (_ :: _ :: (5, .v (.agg (List.map (Value.int .i64) c).toArray)) :: (6, .v (.agg (List.map (Value.int .i64) [(0 : Int), (0 : Int), (0 : Int), (0 : Int), (0 : Int), (0 : Int), (0 : Int), (0 : Int), (0 : Int), (0 : Int), (0 : Int), (0 : Int), (0 : Int), (0 : Int), (0 : Int), (0 : Int)]).toArray)) :: (7, .v (.bool ((c == [(0 : Int), (0 : Int), (0 : Int), (0 : Int), (0 : Int), (0 : Int), (0 : Int), (0 : Int), (0 : Int), (0 : Int), (0 : Int), (0 : Int), (0 : Int), (0 : Int), (0 : Int), (0 : Int)])))) :: (8, .v (.bool false)) :: (9, .v (.agg (List.map (Value.int .i64) c).toArray)) :: (10, .v (.agg (List.map (Value.int .i64) [(0 : Int), 1, (0 : Int), (0 : Int), (0 : Int), (0 : Int), (0 : Int), (0 : Int), (0 : Int), (0 : Int), (0 : Int), (0 : Int), (0 : Int), (0 : Int), (0 : Int), (0 : Int)]).toArray)) :: (11, .v (.bool ((c == [(0 : Int), 1, (0 : Int), (0 : Int), (0 : Int), (0 : Int), (0 : Int), (0 : Int), (0 : Int), (0 : Int), (0 : Int), (0 : Int), (0 : Int), (0 : Int), (0 : Int), (0 : Int)])))) :: (12, .v (.bool ((c == [(0 : Int), 1, (0 : Int), (0 : Int), (0 : Int), (0 : Int), (0 : Int), (0 : Int), (0 : Int), (0 : Int), (0 : Int), (0 : Int), (0 : Int), (0 : Int), (0 : Int), (0 : Int)])))) :: (13, .v (.bool false)) :: (14, .v (.agg (List.map (Value.int .i64) c).toArray)) :: (15, .v (.int .i64 v11)) :: (16, .v (.bool (v11 == 32768))) :: (17, .v (.bool (v11 == 32768))) :: (2, .v (.bool (v11 == 32768))) :: [])) (init := [0, 1]) (fin := [15]) (sps := [⟨[0], [], [2], [(.slot 5)]⟩, ⟨[], [], [3], [(.slot 6)]⟩, ⟨[2, 3], [], [4], [(.slot 7)]⟩, ⟨[4], [], [5], [(.slot 8)]⟩, ⟨[5, 0], [], [6], [(.slot 9)]⟩, ⟨[5, 1], [], [7], [(.slot 10)]⟩, ⟨[5, 6, 7], [], [8], [(.slot 11)]⟩, ⟨[5, 8], [], [9], [(.slot 12)]⟩, ⟨[9], [], [10], [(.slot 13)]⟩, ⟨[10, 0], [], [11], [(.slot 14)]⟩, ⟨[10, 11], [], [12], [(.slot 15)]⟩, ⟨[10, 12], [], [13], [(.slot 16)]⟩, ⟨[10, 13], [], [14], [(.slot 17)]⟩, ⟨[14], [], [15], [(.slot 2)]⟩]) (es' := [(2, .v (.bool (v11 == 32768)))]) (by kernel_rfl) rfl rfl
          ⟨st_plain rfl (op_loadA_arr _ _ _ _ Try.underlying47 rfl (sz47.trans (congrArg some (ln_len hv3))) rfl rfl),
            st_plain rfl (op_build_arr _ _ (.agg #[.int .i64 0, .int .i64 0, .int .i64 0, .int .i64 0, .int .i64 0, .int .i64 0, .int .i64 0, .int .i64 0, .int .i64 0, .int .i64 0, .int .i64 0, .int .i64 0, .int .i64 0, .int .i64 0, .int .i64 0, .int .i64 0]) (List.map (Value.int .i64) [(0 : Int), (0 : Int), (0 : Int), (0 : Int), (0 : Int), (0 : Int), (0 : Int), (0 : Int), (0 : Int), (0 : Int), (0 : Int), (0 : Int), (0 : Int), (0 : Int), (0 : Int), (0 : Int)]) [] Try.underlying47 sz3 zr47 (fun _ V w o a hv hes => by simp only [List.map_toArray, List.map_cons, List.map_nil]; try rfl) (litfill (by simp [Instr.fill, Value.cells]; rfl) (by simp))),
            st_plain rfl (op_eq_arr _ _ _ Try.underlying47 Try.underlying3 (i := Try.t3) (by kernel_rfl) (by kernel_rfl) (by kernel_rfl) rfl rfl (ln_n hv4) (ln_n hv5) rfl),
            st_plain rfl (op_move _ _ _ _ (congrArg (fun b => AV.v (Value.bool b)) hg2_3) rfl),
            st_run 3 8 false rfl rfl rfl (List.Mem.head _) (op_loadA_arr _ _ _ _ Try.underlying47 rfl (sz47.trans (congrArg some (ln_len hv6))) rfl rfl),
            st_run 3 8 false rfl rfl rfl (List.Mem.head _) (op_loadA_arr _ _ _ _ Try.underlying47 rfl (sz47.trans (congrArg some (ln_len hv7))) rfl rfl),
            st_run 3 8 false rfl rfl rfl (List.Mem.head _) (op_eq_arr _ _ _ Try.underlying47 Try.underlying3 (i := Try.t3) (by kernel_rfl) (by kernel_rfl) (by kernel_rfl) rfl rfl (ln_n hv8) (ln_n hv9) rfl),
            st_plain rfl (op_pick _ _ false _ rfl rfl),
            st_plain rfl (op_move _ _ _ _ (congrArg (fun b => AV.v (Value.bool b)) hg2_8) rfl),
            st_run 8 13 false rfl rfl rfl (List.Mem.head _) (op_loadA_arr _ _ _ _ Try.underlying47 rfl (sz47.trans (congrArg some (ln_len hv10))) rfl rfl),
            st_run 8 13 false rfl rfl rfl (List.Mem.head _) (op_call _ _ 34 _ _ rfl Try.call34 rfl (ok_canon_tally_weight c _ hv11) rfl rfl),
            st_run 8 13 false rfl rfl rfl (List.Mem.head _) (op_bin _ _ _ _ _ rfl rfl rfl),
            st_plain rfl (op_pick _ _ false _ rfl rfl),
            st_plain rfl (op_assign _ _ _ _ rfl rfl),
            trivial⟩ ?_
        exact hl14 _ (Option.some.inj h).symm

set_option maxHeartbeats 1000000 in
theorem ok_canon_Check (lengths : (List Int)) (r : Int) (h : Sh.canon_Check lengths = some r) : FnOK Try.prog 15 [.fl .shr 1 (List.map (Value.int .i64) lengths)] (.v (.int .i64 r)) := by
  unfold Sh.canon_Check at h
  refine fn_ok Try.func15 rfl (Nat.le_of_ble_eq_true rfl) rfl rfl fun g0 hn hio => ?_
  refine ht_seq ?_
  refine ht_seqR hn (El := [_, (2, .v (.int .i64 0))]) (init := [0]) (fin := [0]) (sps := [⟨[], [], [1], [(.slot 2)]⟩]) (es' := [(_, _)]) (by kernel_rfl) rfl rfl
    ⟨st_plain rfl (op_assign _ _ _ _ rfl rfl),
      trivial⟩ ?_
  refine pt_then ?_
  refine ht_seq ?_
  refine ht_seq ?_
  obtain ⟨v1, hv1, h⟩ := bind_some h
  refine ht_seqR hn (El := [_, (3, .fl .shr 1 (List.map (Value.int .i64) lengths)), (4, .v (.bool v1)), (5, .v (.bool (!v1)))]) (init := [0]) (fin := [0, 3]) (sps := [⟨[0], [], [1], [(.slot 3)]⟩, ⟨[1], [], [2], [(.slot 4)]⟩, ⟨[2], [], [3], [(.slot 5)]⟩]) (es' := [(_, _), (5, .v (.bool (!v1)))]) (by kernel_rfl) rfl rfl
    ⟨st_plain rfl (op_move _ _ _ _ rfl rfl),
      st_plain rfl (op_call _ _ 30 _ _ rfl Try.call30 rfl (ok_canon_valid lengths _ hv1) rfl rfl),
      st_plain rfl (op_un _ _ _ _ rfl rfl),
      trivial⟩ ?_
  refine pt_then ?_
  refine ht_cond _ rfl (fun hb2 => ?_) (fun hb2 => ?_)
  · have h := cond_t hb2 h
    refine ht_seq ?_
    refine ht_seqR hn (El := [_, _, (2, .v (.int .i64 1))]) (init := [0, 1]) (fin := [2]) (sps := [⟨[], [], [2], [(.slot 2)]⟩]) (es' := [(2, .v (.int .i64 1))]) (by kernel_rfl) rfl rfl
      ⟨st_plain rfl (op_assign _ _ _ _ rfl rfl),
        trivial⟩ ?_
    refine pt_then ?_
    refine ht_ret ?_
    refine pt_r_then ?_
    obtain rfl := Option.some.inj h
    exact pt_ret hio rfl (.tmp _ _ .nil) rfl rfl
  · have h := cond_f hb2 h
    refine ht_skip ?_
    refine pt_then ?_
    refine ht_seq ?_
    refine ht_seq ?_
    obtain ⟨v3, hv3, h⟩ := bind_some h
    obtain ⟨v4, hv4, h⟩ := bind_some h
    refine ht_seqR hn (El := [_, _, (6, .fl .shr 1 (List.map (Value.int .i64) lengths)), (7, .v (.agg (List.map (Value.int .i64) v3).toArray)), (8, .v (.bool v4)), (9, .v (.bool (!v4)))]) (init := [0, 1]) (fin := [5]) (sps := [⟨[0], [], [2], [(.slot 6)]⟩, ⟨[2], [], [3], [(.slot 7)]⟩, ⟨[3], [], [4], [(.slot 8)]⟩, ⟨[4], [], [5], [(.slot 9)]⟩]) (es' := [(9, .v (.bool (!v4)))]) (by kernel_rfl) rfl rfl
      ⟨st_plain rfl (op_move _ _ _ _ rfl rfl),
        st_plain rfl (op_call _ _ 25 _ _ rfl Try.call25 rfl (ok_canon_count lengths _ hv3) rfl rfl),
        st_plain rfl (op_call _ _ 31 _ _ rfl Try.call31 rfl (ok_canon_forms v3 _ hv4) rfl rfl),
        st_plain rfl (op_un _ _ _ _ rfl rfl),
        trivial⟩ ?_
    refine pt_then ?_
    refine ht_cond _ rfl (fun hb5 => ?_) (fun hb5 => ?_)
    · have h := cond_t hb5 h
      refine ht_seq ?_
      refine ht_seqR hn (El := [_, (2, .v (.int .i64 4))]) (init := [0]) (fin := [1]) (sps := [⟨[], [], [1], [(.slot 2)]⟩]) (es' := [(2, .v (.int .i64 4))]) (by kernel_rfl) rfl rfl
        ⟨st_plain rfl (op_assign _ _ _ _ rfl rfl),
          trivial⟩ ?_
      refine pt_then ?_
      refine ht_ret ?_
      refine pt_r_then ?_
      obtain rfl := Option.some.inj h
      exact pt_ret hio rfl (.tmp _ _ .nil) rfl rfl
    · have h := cond_f hb5 h
      refine ht_skip ?_
      refine pt_then ?_
      refine ht_seq ?_
      refine ht_seqR hn (El := [_, (2, .v (.int .i64 0))]) (init := [0]) (fin := [1]) (sps := [⟨[], [], [1], [(.slot 2)]⟩]) (es' := [(2, .v (.int .i64 0))]) (by kernel_rfl) rfl rfl
        ⟨st_plain rfl (op_assign _ _ _ _ rfl rfl),
          trivial⟩ ?_
      refine pt_then ?_
      refine ht_ret ?_
      obtain rfl := Option.some.inj h
      exact pt_ret hio rfl (.tmp _ _ .nil) rfl rfl

set_option maxHeartbeats 1000000 in
theorem ok_canon_firsts (c : (List Int)) (r : (List Int)) (h : Sh.canon_firsts c = some r) : FnOK Try.prog 24 [.v (.agg (List.map (Value.int .i64) c).toArray)] (.v (.agg (List.map (Value.int .i64) r).toArray)) := by
  unfold Sh.canon_firsts at h
  refine fn_ok Try.func24 rfl (Nat.le_of_ble_eq_true rfl) rfl rfl fun g0 hn hio => ?_
  refine ht_seq ?_
  refine ht_seqR hn (El := [_, (1, .arr 47 (List.map (Value.int .i64) c)), (2, .arr 47 (List.map (Value.int .i64) ((List.replicate 16 (0 : Int)))))]) (init := [0]) (fin := [1, 2]) (sps := [⟨[0], [], [1], [(.slot 1)]⟩, ⟨[], [], [2], [(.slot 2)]⟩]) (es' := [(1, .arr 47 (List.map (Value.int .i64) c)), (2, .arr 47 (List.map (Value.int .i64) ((List.replicate 16 (0 : Int)))))]) (by kernel_rfl) rfl rfl
    ⟨st_plain rfl (op_box_arr _ _ _ rfl),
      st_plain rfl (op_alloc_arr _ za47),
      trivial⟩ ?_
  refine pt_then ?_
  refine ht_seq ?_
  refine ht_seqR hn (El := [_, _, (3, .arr 47 (List.map (Value.int .i64) ((List.replicate 16 (0 : Int)))))]) (init := [0, 1]) (fin := [0, 1, 2]) (sps := [⟨[], [], [2], [(.slot 3)]⟩]) (es' := [(_, _), (_, _), (3, .arr 47 (List.map (Value.int .i64) ((List.replicate 16 (0 : Int)))))]) (by kernel_rfl) rfl rfl
    ⟨st_plain rfl (op_alloc_arr _ za47),
      trivial⟩ ?_
  refine pt_then ?_
  refine ht_seq ?_
  refine ht_seq ?_
  refine ht_seqR hn (El := [_, _, _, (4, .v (.int .i64 2))]) (init := [0, 1, 2]) (fin := [0, 1, 2, 3]) (sps := [⟨[], [], [3], [(.slot 4)]⟩]) (es' := [(_, _), (_, _), (_, _), (4, .v (.int .i64 2))]) (by kernel_rfl) rfl rfl
    ⟨st_plain rfl (op_assign _ _ _ _ rfl rfl),
      trivial⟩ ?_
  refine pt_then ?_
  refine ht_loopS h (fun ((s16, s17) : (List Int) × Int) => [(1, .arr 47 (List.map (Value.int .i64) c)), (2, .arr 47 (List.map (Value.int .i64) ((List.replicate 16 (0 : Int))))), (3, .arr 47 (List.map (Value.int .i64) s16)), (4, .v (.int .i64 s17))]) (fun (s19 : (List Int)) => [(2, .arr 47 (List.map (Value.int .i64) ((List.replicate 16 (0 : Int))))), (3, .arr 47 (List.map (Value.int .i64) s19))]) ?_ ?_
  · rintro s19 h
    refine pt_then ?_
    refine ht_seq ?_
    obtain ⟨v27, hv27, h⟩ := bind_some h
    obtain ⟨v28, hv28, h⟩ := bind_some h
    obtain ⟨v29, hv29, h⟩ := bind_some h
    refine ht_seqR hn (El := [_, _, (21, .v (.agg (List.map (Value.int .i64) s19).toArray)), (2, .arr 47 (List.map (Value.int .i64) s19))]) (init := [0, 1]) (fin := [3]) (sps := [⟨[1], [], [2], [(.slot 21)]⟩, ⟨[2], [0], [3], []⟩]) (es' := [(2, .arr 47 (List.map (Value.int .i64) s19))]) (by kernel_rfl) rfl rfl
      ⟨st_plain rfl (op_loadA_arr _ _ _ _ Try.underlying47 rfl (sz47.trans (congrArg some (ln_len hv27))) rfl rfl),
        st_plain rfl (op_storeA_arr _ _ _ _ (sz47.trans (congrArg some (ln_len hv29))) rfl rfl (ln_ones (fun _ => rfl) _) ((ln_len (f := Value.int .i64) hv28).symm.trans (ln_len (f := Value.int .i64) hv29))),
        trivial⟩ ?_
    refine pt_then ?_
    refine ht_ret ?_
    obtain ⟨v30, hv30, h⟩ := bind_some h
    obtain rfl := Option.some.inj h
    exact pt_ret hio rfl (.cellR _ _ _ _ Try.underlying47 rfl (sz47.trans (congrArg some (ln_len hv30))) .nil) rfl rfl
  · rintro u20 hl21 hr22 ⟨s16, s17⟩ rr25 h ho23
    refine ht_seq ?_
    refine ht_seq ?_
    refine ht_seqR hn (El := [_, _, _, _, (5, .v (.int .i64 s17)), (6, .v (.bool ((decide (s17 ≤ 15)))))]) (init := [0, 1, 2, 3]) (fin := [0, 1, 2, 3, 5]) (sps := [⟨[3], [], [4], [(.slot 5)]⟩, ⟨[4], [], [5], [(.slot 6)]⟩]) (es' := [(_, _), (_, _), (_, _), (_, _), (6, .v (.bool ((decide (s17 ≤ 15)))))]) (by kernel_rfl) rfl rfl
      ⟨st_plain rfl (op_move _ _ _ _ rfl rfl),
        st_plain rfl (op_bin _ _ _ _ _ rfl rfl rfl),
        trivial⟩ ?_
    refine pt_then ?_
    refine ht_cond _ rfl (fun hb26 => ?_) (fun hb26 => ?_)
    · have h := cond_t hb26 h
      refine ht_skip ?_
      refine pt_then ?_
      refine ht_seq ?_
      refine ht_block ?_
      obtain ⟨v2, hv2, h⟩ := bind_some h
      obtain ⟨v3, hv3, h⟩ := bind_some h
      obtain ⟨v4, hv4, h⟩ := bind_some h
      obtain ⟨v5, hv5, h⟩ := bind_some h
      obtain ⟨v6, hv6, h⟩ := bind_some h
      obtain ⟨v7, hv7, h⟩ := bind_some h
      obtain ⟨v8, hv8, h⟩ := bind_some h
      obtain ⟨v9, hv9, h⟩ := bind_some h
      obtain ⟨v10, hv10, h⟩ := bind_some h
      obtain ⟨v11, hv11, h⟩ := bind_some h
      refine ht_anyR (by kernel_rfl) hn (El := (_ :: _ :: _ :: _ :: _ :: (9, .v (.int .i64 s17)) :: (10, .v (.int .i64 s17)) :: (11, .v (.int .i64 v2)) :: (12, .ptr 3 v3) :: (13, .v (.int .i64 v4)) :: (14, .v (.int .i64 s17)) :: (15, .v (.int .i64 v5)) :: (16, .ptr 1 v6) :: (17, .v (.int .i64 v7)) :: (18, .v (.int .i64 v8)) :: (19, .v (.int .i64 v9)) :: (20, .ptr 3 v10) :: (3, .arr 47 (List.map (Value.int .i64) v11)) :: [])) (init := [0, 1, 2, 3, 4]) (fin := [0, 1, 17, 3]) (sps := [⟨[3], [], [5], [(.slot 9)]⟩, ⟨[3], [], [6], [(.slot 10)]⟩, ⟨[6], [], [7], [(.slot 11)]⟩, ⟨[2, 7], [], [8], [(.slot 12)]⟩, ⟨[8, 2], [], [9], [(.slot 13)]⟩, ⟨[3], [], [10], [(.slot 14)]⟩, ⟨[10], [], [11], [(.slot 15)]⟩, ⟨[0, 11], [], [12], [(.slot 16)]⟩, ⟨[12, 0], [], [13], [(.slot 17)]⟩, ⟨[9, 13], [], [14], [(.slot 18)]⟩, ⟨[14], [], [15], [(.slot 19)]⟩, ⟨[2, 5], [], [16], [(.slot 20)]⟩, ⟨[16, 15], [2], [17], []⟩]) (es' := [(_, _), (_, _), (3, .arr 47 (List.map (Value.int .i64) v11)), (_, _)]) (by kernel_rfl) rfl rfl
        ⟨st_plain rfl (op_move _ _ _ _ rfl rfl),
          st_plain rfl (op_move _ _ _ _ rfl rfl),
          st_plain rfl (op_bin _ _ _ _ _ rfl rfl (ibind (f := Value.int .i64) (Option.some.inj hv2))),
          st_plain rfl (op_ix_arr _ _ _ _ 16 3 _ Try.underlying47 sz3 rfl rfl (ix_ok hv3).1 (ix_ok hv3).2 (by decide)),
          st_plain rfl (op_load_arr _ _ _ _ _ _ Try.underlying3 rfl rfl rfl (map_get1 hv4)),
          st_plain rfl (op_move _ _ _ _ rfl rfl),
          st_plain rfl (op_bin _ _ _ _ _ rfl rfl (ibind (f := Value.int .i64) (Option.some.inj hv5))),
          st_plain rfl (op_ix_arr _ _ _ _ 16 1 _ Try.underlying47 sz3 rfl rfl (ix_ok hv6).1 (ix_ok hv6).2 (by decide)),
          st_plain rfl (op_load_arr _ _ _ _ _ _ Try.underlying3 rfl rfl rfl (map_get1 hv7)),
          st_plain rfl (op_bin _ _ _ _ _ rfl rfl (ibind (f := Value.int .i64) (Option.some.inj hv8))),
          st_plain rfl (op_bin _ _ _ _ _ rfl rfl (ibind (f := Value.int .i64) (Option.some.inj hv9))),
          st_plain rfl (op_ix_arr _ _ _ _ 16 3 _ Try.underlying47 sz3 rfl rfl (ix_ok hv10).1 (ix_ok hv10).2 (by decide)),
          st_plain rfl (op_store_arr _ _ _ _ _ _ sz3 rfl rfl rfl rfl (set_lt hv11) (set_eq (f := Value.int .i64) hv11)),
          trivial⟩ ?_
      refine pt_inb ?_
      refine pt_then ?_
      obtain ⟨v12, hv12, h⟩ := bind_some h
      refine ht_seqR hn (El := [_, _, _, _, (7, .v (.int .i64 s17)), (8, .v (.int .i64 v12)), (4, .v (.int .i64 v12))]) (init := [0, 1, 2, 3]) (fin := [0, 1, 2, 6]) (sps := [⟨[3], [], [4], [(.slot 7)]⟩, ⟨[4], [], [5], [(.slot 8)]⟩, ⟨[5], [3], [6], [(.slot 4)]⟩]) (es' := [(_, _), (_, _), (_, _), (4, .v (.int .i64 v12))]) (by kernel_rfl) rfl rfl
        ⟨st_plain rfl (op_move _ _ _ _ rfl rfl),
          st_plain rfl (op_bin _ _ _ _ _ rfl rfl (ibind (f := Value.int .i64) (Option.some.inj hv12))),
          st_plain rfl (LOp.drop [_] (op_assign _ _ _ _ rfl rfl)),
          trivial⟩ ?_
      exact pt_next _ (Option.some.inj h).symm rfl
    · have h := cond_f hb26 h
      refine ht_exit ?_
      refine pt_x_then ?_
      refine pt_x_then ?_
      refine pt_x_in ?_
      refine pt_pick [1, 2] (by kernel_rfl) (es' := [(_, _), (_, _)]) rfl ?_
      exact hl21 _ (ho23 _ (Option.some.inj h).symm).symm

set_option maxHeartbeats 1000000 in
theorem ok_canon_Codes (lengths : (List Int)) (r : ((List Int) × Int)) (h : Sh.canon_Codes lengths = some r) : FnOK Try.prog 11 [.fl .shr 1 (List.map (Value.int .i64) lengths)] (.tup [.fl (.own 3) 1 (List.map (Value.int .i64) r.1), .v (.int .i64 r.2)]) := by
  unfold Sh.canon_Codes at h
  refine fn_ok Try.func11 rfl (Nat.le_of_ble_eq_true rfl) rfl rfl fun g0 hn hio => ?_
  refine ht_seq ?_
  refine ht_seqR hn (El := [_, (2, .v (.slice none 0 0)), (3, .v (.int .i64 0))]) (init := [0]) (fin := [0]) (sps := [⟨[], [], [1], [(.slot 2)]⟩, ⟨[], [], [2], [(.slot 3)]⟩]) (es' := [(_, _)]) (by kernel_rfl) rfl rfl
    ⟨st_plain rfl (op_assign _ _ _ _ rfl rfl),
      st_plain rfl (op_assign _ _ _ _ rfl rfl),
      trivial⟩ ?_
  refine pt_then ?_
  refine ht_seq ?_
  refine ht_seq ?_
  obtain ⟨v1, hv1, h⟩ := bind_some h
  refine ht_seqR hn (El := [_, (9, .fl .shr 1 (List.map (Value.int .i64) lengths)), (10, .v (.int .i64 v1)), (4, .v (.int .i64 v1))]) (init := [0]) (fin := [0, 3]) (sps := [⟨[0], [], [1], [(.slot 9)]⟩, ⟨[1], [], [2], [(.slot 10)]⟩, ⟨[2], [], [3], [(.slot 4)]⟩]) (es' := [(_, _), (4, .v (.int .i64 v1))]) (by kernel_rfl) rfl rfl
    ⟨st_plain rfl (op_move _ _ _ _ rfl rfl),
      st_plain rfl (op_call _ _ 15 _ _ rfl Try.call15 rfl (ok_canon_Check lengths _ hv1) rfl rfl),
      st_plain rfl (op_assign _ _ _ _ rfl rfl),
      trivial⟩ ?_
  refine pt_then ?_
  refine ht_seq ?_
  refine ht_seqR hn (El := [_, _, (11, .v (.int .i64 v1)), (12, .v (.bool (v1 != 0)))]) (init := [0, 1]) (fin := [0, 1, 3]) (sps := [⟨[1], [], [2], [(.slot 11)]⟩, ⟨[2], [], [3], [(.slot 12)]⟩]) (es' := [(_, _), (_, _), (12, .v (.bool (v1 != 0)))]) (by kernel_rfl) rfl rfl
    ⟨st_plain rfl (op_move _ _ _ _ rfl rfl),
      st_plain rfl (op_bin _ _ _ _ _ rfl rfl rfl),
      trivial⟩ ?_
  refine pt_then ?_
  refine ht_cond _ rfl (fun hb2 => ?_) (fun hb2 => ?_)
  · have h := cond_t hb2 h
    refine ht_seq ?_
    refine ht_seqR hn (El := [_, _, _, (13, .v (.int .i64 v1)), (2, .v (.slice none 0 0)), (3, .v (.int .i64 v1))]) (init := [0, 1, 2]) (fin := [4, 5]) (sps := [⟨[1], [], [3], [(.slot 13)]⟩, ⟨[], [], [4], [(.slot 2)]⟩, ⟨[3], [], [5], [(.slot 3)]⟩]) (es' := [(2, .v (.slice none 0 0)), (3, .v (.int .i64 v1))]) (by kernel_rfl) rfl rfl
      ⟨st_plain rfl (op_move _ _ _ _ rfl rfl),
        st_plain rfl (op_assign _ _ _ _ rfl rfl),
        st_plain rfl (op_assign _ _ _ _ rfl rfl),
        trivial⟩ ?_
    refine pt_then ?_
    refine ht_ret ?_
    refine pt_sub (fs := [(2, .fl (.own 3) 1 (List.map (Value.int .i64) [])), (3, .v (.int .i64 v1))]) (.sub _ (sub_nil 3 1) rfl (.same _ .nil)) ?_
    refine pt_r_then ?_
    obtain rfl := Option.some.inj h
    exact pt_ret hio rfl (.tmp _ _ (.tmp _ _ .nil)) rfl rfl
  · have h := cond_f hb2 h
    refine ht_skip ?_
    refine pt_then ?_
    refine ht_seq ?_
    obtain ⟨v3, hv3, h⟩ := bind_some h
    obtain ⟨v4, hv4, h⟩ := bind_some h
    obtain ⟨v5, hv5, h⟩ := bind_some h
    obtain ⟨v6, hv6, h⟩ := bind_some h
    refine ht_seqR hn (El := [_, _, _, (14, .fl .shr 1 (List.map (Value.int .i64) lengths)), (15, .v (.agg (List.map (Value.int .i64) v3).toArray)), (16, .v (.agg (List.map (Value.int .i64) v4).toArray)), (5, .arr 47 (List.map (Value.int .i64) ((List.replicate 16 (0 : Int))))), (5, .arr 47 (List.map (Value.int .i64) v4))]) (init := [0, 1, 2]) (fin := [0, 7]) (sps := [⟨[0], [], [3], [(.slot 14)]⟩, ⟨[3], [], [4], [(.slot 15)]⟩, ⟨[4], [], [5], [(.slot 16)]⟩, ⟨[], [], [6], [(.slot 5)]⟩, ⟨[5], [6], [7], []⟩]) (es' := [(_, _), (5, .arr 47 (List.map (Value.int .i64) v4))]) (by kernel_rfl) rfl rfl
      ⟨st_plain rfl (op_move _ _ _ _ rfl rfl),
        st_plain rfl (op_call _ _ 25 _ _ rfl Try.call25 rfl (ok_canon_count lengths _ hv3) rfl rfl),
        st_plain rfl (op_call _ _ 24 _ _ rfl Try.call24 rfl (ok_canon_firsts v3 _ hv4) rfl rfl),
        st_plain rfl (op_alloc_arr _ za47),
        st_plain rfl (op_storeA_arr _ _ _ _ (sz47.trans (congrArg some (ln_len hv6))) rfl rfl (ln_ones (fun _ => rfl) _) ((ln_len (f := Value.int .i64) hv5).symm.trans (ln_len (f := Value.int .i64) hv6))),
        trivial⟩ ?_
    refine pt_then ?_
    refine ht_seq ?_
    obtain ⟨v7, hv7, h⟩ := bind_some h
    refine ht_seqR hn (El := [_, _, (17, .fl .shr 1 (List.map (Value.int .i64) lengths)), (18, .v (.int .i64 (lengths.length : Int))), (19, .fl (.own 3) 1 (List.map (Value.int .i64) v7)), (6, .fl (.own 3) 1 (List.map (Value.int .i64) v7))]) (init := [0, 1]) (fin := [0, 1, 5]) (sps := [⟨[0], [], [2], [(.slot 17)]⟩, ⟨[2], [], [3], [(.slot 18)]⟩, ⟨[3], [], [4], [(.slot 19)]⟩, ⟨[], [4], [5], [(.slot 6)]⟩]) (es' := [(_, _), (_, _), (6, .fl (.own 3) 1 (List.map (Value.int .i64) v7))]) (by kernel_rfl) rfl rfl
      ⟨st_plain rfl (op_move _ _ _ _ rfl rfl),
        st_plain rfl (op_len_fl _ _ _ Try.underlying22 rfl (by decide) (map_len _)),
        st_plain rfl (op_mk (f := Value.int .i64) _ _ _ _ el22 (by decide) zr3 rfl rfl rfl hv7),
        st_plain rfl (op_assign_take _ _ _ _ rfl),
        trivial⟩ ?_
    refine pt_then ?_
    refine ht_seq ?_
    refine ht_seq ?_
    refine ht_seqR hn (El := [_, _, _, (20, .fl .shr 1 (List.map (Value.int .i64) lengths)), (21, .v (.int .i64 (lengths.length : Int))), (22, .v (.int .i64 0))]) (init := [0, 1, 2]) (fin := [1, 2, 3, 4, 5]) (sps := [⟨[0], [], [3], [(.slot 20)]⟩, ⟨[3], [], [4], [(.slot 21)]⟩, ⟨[], [], [5], [(.slot 22)]⟩]) (es' := [(_, _), (_, _), (20, .fl .shr 1 (List.map (Value.int .i64) lengths)), (21, .v (.int .i64 (lengths.length : Int))), (22, .v (.int .i64 0))]) (by kernel_rfl) rfl rfl
      ⟨st_plain rfl (op_move _ _ _ _ rfl rfl),
        st_plain rfl (op_len_fl _ _ _ Try.underlying22 rfl (by decide) (map_len _)),
        st_plain rfl (op_move _ _ _ _ rfl rfl),
        trivial⟩ ?_
    refine pt_then ?_
    refine ht_loopS h (fun ((s39, s40, s41) : (List Int) × (List Int) × Int) => [(5, .arr 47 (List.map (Value.int .i64) s39)), (6, .fl (.own 3) 1 (List.map (Value.int .i64) s40)), (20, .fl .shr 1 (List.map (Value.int .i64) lengths)), (21, .v (.int .i64 (lengths.length : Int))), (22, .v (.int .i64 s41))]) (fun (s50 : (List Int)) => [(6, .fl (.own 3) 1 (List.map (Value.int .i64) s50))]) ?_ ?_
    · rintro s50 h
      refine pt_then ?_
      refine ht_seq ?_
      refine ht_seqR hn (El := [_, (41, .fl (.own 3) 1 (List.map (Value.int .i64) s50)), (2, .fl (.own 3) 1 (List.map (Value.int .i64) s50)), (3, .v (.int .i64 0))]) (init := [0]) (fin := [2, 3]) (sps := [⟨[], [0], [1], [(.slot 41)]⟩, ⟨[], [1], [2], [(.slot 2)]⟩, ⟨[], [], [3], [(.slot 3)]⟩]) (es' := [(2, .fl (.own 3) 1 (List.map (Value.int .i64) s50)), (3, .v (.int .i64 0))]) (by kernel_rfl) rfl rfl
        ⟨st_plain rfl (op_move_take _ _ _ _ rfl),
          st_plain rfl (op_assign_take _ _ _ _ rfl),
          st_plain rfl (op_assign _ _ _ _ rfl rfl),
          trivial⟩ ?_
      refine pt_then ?_
      refine ht_ret ?_
      obtain rfl := Option.some.inj h
      exact pt_ret hio rfl (.tmp _ _ (.tmp _ _ .nil)) rfl rfl
    · rintro u51 hl52 hr53 ⟨s39, s40, s41⟩ rr56 h ho54
      refine ht_seq ?_
      refine ht_seqR hn (El := [_, _, _, _, _, (23, .v (.bool ((decide (s41 < (lengths.length : Int))))))]) (init := [0, 1, 2, 3, 4]) (fin := [0, 1, 2, 3, 4, 5]) (sps := [⟨[4, 3], [], [5], [(.slot 23)]⟩]) (es' := [(_, _), (_, _), (_, _), (_, _), (_, _), (23, .v (.bool ((decide (s41 < (lengths.length : Int))))))]) (by kernel_rfl) rfl rfl
        ⟨st_plain rfl (op_bin _ _ _ _ _ rfl rfl rfl),
          trivial⟩ ?_
      refine pt_then ?_
      refine ht_seq ?_
      refine ht_cond _ rfl (fun hb57 => ?_) (fun hb57 => ?_)
      · have h := cond_t hb57 h
        refine ht_skip ?_
        refine pt_then ?_
        refine ht_seq ?_
        refine ht_joinS h (fun ((s59, s60) : (List Int) × (List Int)) => [(5, .arr 47 (List.map (Value.int .i64) s59)), (6, .fl (.own 3) 1 (List.map (Value.int .i64) s60)), (20, .fl .shr 1 (List.map (Value.int .i64) lengths)), (21, .v (.int .i64 (lengths.length : Int))), (22, .v (.int .i64 s41))]) ?_ ?_
        · rintro ⟨s59, s60⟩ h
          refine pt_then ?_
          obtain ⟨v27, hv27, h⟩ := bind_some h
          refine ht_seqR hn (El := [_, _, _, _, _, (40, .v (.int .i64 v27)), (22, .v (.int .i64 v27))]) (init := [0, 1, 2, 3, 4]) (fin := [0, 1, 2, 3, 6]) (sps := [⟨[4], [], [5], [(.slot 40)]⟩, ⟨[5], [4], [6], [(.slot 22)]⟩]) (es' := [(_, _), (_, _), (_, _), (_, _), (22, .v (.int .i64 v27))]) (by kernel_rfl) rfl rfl
            ⟨st_plain rfl (op_bin _ _ _ _ _ rfl rfl (ibind (f := Value.int .i64) (Option.some.inj hv27))),
              st_plain rfl (LOp.drop [_] (op_move _ _ _ _ rfl rfl)),
              trivial⟩ ?_
          exact pt_next _ (Option.some.inj h).symm rfl
        · intro u61 h hl62 hr63
          refine ht_block ?_
          refine ht_seq ?_
          obtain ⟨v9, hv9, h⟩ := bind_some h
          obtain ⟨v10, hv10, h⟩ := bind_some h
          refine ht_seqR hn (El := [_, _, _, _, _, _, (24, .v (.int .i64 s41)), (25, .eref (.slot 20) (v9 * 1)), (26, .v (.int .i64 v10)), (7, .v (.int .i64 s41)), (8, .v (.int .i64 v10))]) (init := [0, 1, 2, 3, 4, 5]) (fin := [0, 1, 2, 3, 4, 9, 10]) (sps := [⟨[4], [], [6], [(.slot 24)]⟩, ⟨[2, 4], [], [7], [(.slot 25)]⟩, ⟨[7, 2], [], [8], [(.slot 26)]⟩, ⟨[6], [], [9], [(.slot 7)]⟩, ⟨[8], [], [10], [(.slot 8)]⟩]) (es' := [(_, _), (_, _), (_, _), (_, _), (_, _), (7, .v (.int .i64 s41)), (8, .v (.int .i64 v10))]) (by kernel_rfl) rfl rfl
            ⟨st_plain rfl (op_move _ _ _ _ rfl rfl),
              st_plain rfl (op_ix _ _ _ _ _ _ _ _ Try.underlying22 sz3 (by decide) rfl rfl rfl (ix_ok hv9).1 (map_lt (ix_ok hv9).2) rfl),
              st_plain rfl (op_load_e _ _ _ _ _ _ Try.underlying3 rfl rfl rfl (map_get hv10)),
              st_plain rfl (op_assign _ _ _ _ rfl rfl),
              st_plain rfl (op_assign _ _ _ _ rfl rfl),
              trivial⟩ ?_
          refine pt_then ?_
          refine ht_seq ?_
          refine ht_seqR hn (El := [_, _, _, _, _, _, _, (27, .v (.int .i64 v10)), (28, .v (.bool ((decide (0 < v10)))))]) (init := [0, 1, 2, 3, 4, 5, 6]) (fin := [0, 1, 2, 3, 4, 5, 6, 8]) (sps := [⟨[6], [], [7], [(.slot 27)]⟩, ⟨[7], [], [8], [(.slot 28)]⟩]) (es' := [(_, _), (_, _), (_, _), (_, _), (_, _), (_, _), (_, _), (28, .v (.bool ((decide (0 < v10)))))]) (by kernel_rfl) rfl rfl
            ⟨st_plain rfl (op_move _ _ _ _ rfl rfl),
              st_plain rfl (op_bin _ _ _ _ _ rfl rfl rfl),
              trivial⟩ ?_
          refine pt_then ?_
          refine ht_cond _ rfl (fun hb64 => ?_) (fun hb64 => ?_)
          · have h := cond_t hb64 h
            refine ht_seq ?_
            obtain ⟨v12, hv12, h⟩ := bind_some h
            obtain ⟨v13, hv13, h⟩ := bind_some h
            obtain ⟨v14, hv14, h⟩ := bind_some h
            obtain ⟨v15, hv15, h⟩ := bind_some h
            refine ht_seqR hn (El := (_ :: _ :: _ :: _ :: _ :: _ :: _ :: _ :: (29, .same (.slot 6)) :: (30, .v (.int .i64 s41)) :: (31, .v (.int .i64 v10)) :: (32, .ptr 5 v12) :: (33, .v (.int .i64 v13)) :: (34, .eref (.slot 6) (v14 * 1)) :: (6, .fl (.own 3) 1 (List.map (Value.int .i64) v15)) :: [])) (init := [0, 1, 2, 3, 4, 5, 6, 7]) (fin := [0, 14, 2, 3, 4, 6]) (sps := [⟨[1], [], [8], [(.slot 29)]⟩, ⟨[5], [], [9], [(.slot 30)]⟩, ⟨[6], [], [10], [(.slot 31)]⟩, ⟨[0, 10], [], [11], [(.slot 32)]⟩, ⟨[11, 0], [], [12], [(.slot 33)]⟩, ⟨[8, 1, 9], [], [13], [(.slot 34)]⟩, ⟨[13, 12], [1], [14], []⟩]) (es' := [(_, _), (6, .fl (.own 3) 1 (List.map (Value.int .i64) v15)), (_, _), (_, _), (_, _), (_, _)]) (by kernel_rfl) rfl rfl
              ⟨st_plain rfl (op_move _ _ _ _ rfl rfl),
                st_plain rfl (op_move _ _ _ _ rfl rfl),
                st_plain rfl (op_move _ _ _ _ rfl rfl),
                st_plain rfl (op_ix_arr _ _ _ _ 16 5 _ Try.underlying47 sz3 rfl rfl (ix_ok hv12).1 (ix_ok hv12).2 (by decide)),
                st_plain rfl (op_load_arr _ _ _ _ _ _ Try.underlying3 rfl rfl rfl (map_get1 hv13)),
                st_plain rfl (op_ix _ _ _ _ _ _ _ _ Try.underlying22 sz3 (by decide) rfl rfl rfl (ix_ok hv14).1 (map_lt (ix_ok hv14).2) rfl),
                st_plain rfl (op_store_e _ _ _ _ _ _ _ _ sz3 rfl rfl rfl (by decide) (map_lt (ix_ok hv14).2) ((map_set (f := Value.int .i64) _ (ix_ok hv14).2).trans (congrArg (List.map _) (Option.some.inj hv15)))),
                trivial⟩ ?_
            refine pt_then ?_
            obtain ⟨v16, hv16, h⟩ := bind_some h
            obtain ⟨v17, hv17, h⟩ := bind_some h
            obtain ⟨v18, hv18, h⟩ := bind_some h
            obtain ⟨v19, hv19, h⟩ := bind_some h
            obtain ⟨v20, hv20, h⟩ := bind_some h
            refine ht_seqR hn (El := [_, _, _, _, _, _, (35, .v (.int .i64 v10)), (36, .ptr 5 v16), (37, .v (.int .i64 v17)), (38, .v (.int .i64 v18)), (39, .ptr 5 v19), (5, .arr 47 (List.map (Value.int .i64) v20))]) (init := [0, 1, 2, 3, 4, 5]) (fin := [11, 1, 2, 3, 4]) (sps := [⟨[5], [], [6], [(.slot 35)]⟩, ⟨[0, 6], [], [7], [(.slot 36)]⟩, ⟨[7, 0], [], [8], [(.slot 37)]⟩, ⟨[8], [], [9], [(.slot 38)]⟩, ⟨[0, 6], [], [10], [(.slot 39)]⟩, ⟨[10, 9], [0], [11], []⟩]) (es' := [(5, .arr 47 (List.map (Value.int .i64) v20)), (_, _), (_, _), (_, _), (_, _)]) (by kernel_rfl) rfl rfl
              ⟨st_plain rfl (op_move _ _ _ _ rfl rfl),
                st_plain rfl (op_ix_arr _ _ _ _ 16 5 _ Try.underlying47 sz3 rfl rfl (ix_ok hv16).1 (ix_ok hv16).2 (by decide)),
                st_plain rfl (op_load_arr _ _ _ _ _ _ Try.underlying3 rfl rfl rfl (map_get1 hv17)),
                st_plain rfl (op_bin _ _ _ _ _ rfl rfl (ibind (f := Value.int .i64) (Option.some.inj hv18))),
                st_plain rfl (op_ix_arr _ _ _ _ 16 5 _ Try.underlying47 sz3 rfl rfl (ix_ok hv19).1 (ix_ok hv19).2 (by decide)),
                st_plain rfl (op_store_arr _ _ _ _ _ _ sz3 rfl rfl rfl rfl (set_lt hv20) (set_eq (f := Value.int .i64) hv20)),
                trivial⟩ ?_
            refine pt_inb ?_
            exact hl62 _ (Option.some.inj h).symm
          · have h := cond_f hb64 h
            refine ht_skip ?_
            refine pt_inb ?_
            refine pt_pick [0, 1, 2, 3, 4] (by kernel_rfl) (es' := [(_, _), (_, _), (_, _), (_, _), (_, _)]) rfl ?_
            exact hl62 _ (Option.some.inj h).symm
      · have h := cond_f hb57 h
        refine ht_exit ?_
        refine pt_x_then ?_
        refine pt_x_then ?_
        refine pt_x_in ?_
        refine pt_pick [1] (by kernel_rfl) (es' := [(_, _)]) rfl ?_
        exact hl52 _ (ho54 _ (Option.some.inj h).symm).symm

set_option maxHeartbeats 1000000 in
theorem ok_wherryref01_in (n : Int) (lo : Int) (hi : Int) (r : Bool) (h : Sh.wherryref01_in n lo hi = some r) : FnOK Try.prog 28 [.v (.int .i64 n), .v (.int .i64 lo), .v (.int .i64 hi)] (.v (.bool r)) := by
  unfold Sh.wherryref01_in at h
  refine fn_ok Try.func28 rfl (Nat.le_of_ble_eq_true rfl) rfl rfl fun g0 hn hio => ?_
  refine ht_seq ?_
  refine ht_seqR hn (El := [_, _, _, (6, .v (.bool false))]) (init := [0, 1, 2]) (fin := [0, 1, 2]) (sps := [⟨[], [], [3], [(.slot 6)]⟩]) (es' := [(_, _), (_, _), (_, _)]) (by kernel_rfl) rfl rfl
    ⟨st_plain rfl (op_assign _ _ _ _ rfl rfl),
      trivial⟩ ?_
  refine pt_then ?_
  refine ht_seq ?_
  refine ht_joinS h (fun (s1 : Bool) => [(6, .v (.bool s1))]) ?_ ?_
  · rintro s1 h
    refine pt_then ?_
    refine ht_ret ?_
    obtain rfl := Option.some.inj h
    exact pt_ret hio rfl (.tmp _ _ .nil) rfl rfl
  · intro u2 h hl3 hr4
    refine cond_some h (fun hg1_3 h => ?_) (fun hg1_3 h => ?_)
    · refine ht_seqR hn (El := [_, _, _, (7, .v (.int .i64 n)), (8, .v (.int .i64 lo)), (9, .v (.bool ((decide (lo ≤ n))))), (10, .v (.bool true)), (11, .v (.int .i64 n)), (12, .v (.int .i64 hi)), (13, .v (.bool ((decide (n ≤ hi))))), (14, .v (.bool ((decide (n ≤ hi))))), (6, .v (.bool ((decide (n ≤ hi)))))]) (init := [0, 1, 2]) (fin := [11]) (sps := [⟨[0], [], [3], [(.slot 7)]⟩, ⟨[1], [], [4], [(.slot 8)]⟩, ⟨[3, 4], [], [5], [(.slot 9)]⟩, ⟨[5], [], [6], [(.slot 10)]⟩, ⟨[6, 0], [], [7], [(.slot 11)]⟩, ⟨[6, 2], [], [8], [(.slot 12)]⟩, ⟨[6, 7, 8], [], [9], [(.slot 13)]⟩, ⟨[6, 9], [], [10], [(.slot 14)]⟩, ⟨[10], [], [11], [(.slot 6)]⟩]) (es' := [(6, .v (.bool ((decide (n ≤ hi)))))]) (by kernel_rfl) rfl rfl
        ⟨st_plain rfl (op_move _ _ _ _ rfl rfl),
          st_plain rfl (op_move _ _ _ _ rfl rfl),
          st_plain rfl (op_bin _ _ _ _ _ rfl rfl rfl),
          st_plain rfl (op_move _ _ _ _ (congrArg (fun b => AV.v (Value.bool b)) hg1_3) rfl),
          st_run 3 10 true rfl rfl rfl (List.Mem.head _) (op_move _ _ _ _ rfl rfl),
          st_run 3 10 true rfl rfl rfl (List.Mem.head _) (op_move _ _ _ _ rfl rfl),
          st_run 3 10 true rfl rfl rfl (List.Mem.head _) (op_bin _ _ _ _ _ rfl rfl rfl),
          st_plain rfl (op_pick _ _ true _ rfl rfl),
          st_plain rfl (op_assign _ _ _ _ rfl rfl),
          trivial⟩ ?_
      exact hl3 _ (Option.some.inj h).symm
    · refine ht_seqR hn (El := [_, _, _, (7, .v (.int .i64 n)), (8, .v (.int .i64 lo)), (9, .v (.bool ((decide (lo ≤ n))))), (10, .v (.bool false)), (11, .v undef), (12, .v undef), (13, .v undef), (14, .v (.bool false)), (6, .v (.bool false))]) (init := [0, 1, 2]) (fin := [11]) (sps := [⟨[0], [], [3], [(.slot 7)]⟩, ⟨[1], [], [4], [(.slot 8)]⟩, ⟨[3, 4], [], [5], [(.slot 9)]⟩, ⟨[5], [], [6], [(.slot 10)]⟩, ⟨[6], [], [7], [(.slot 11)]⟩, ⟨[6], [], [8], [(.slot 12)]⟩, ⟨[6], [], [9], [(.slot 13)]⟩, ⟨[6], [], [10], [(.slot 14)]⟩, ⟨[10], [], [11], [(.slot 6)]⟩]) (es' := [(6, .v (.bool false))]) (by kernel_rfl) rfl rfl
        ⟨st_plain rfl (op_move _ _ _ _ rfl rfl),
          st_plain rfl (op_move _ _ _ _ rfl rfl),
          st_plain rfl (op_bin _ _ _ _ _ rfl rfl rfl),
          st_plain rfl (op_move _ _ _ _ (congrArg (fun b => AV.v (Value.bool b)) hg1_3) rfl),
          st_skip 3 10 _ true rfl rfl rfl rfl (List.Mem.head _),
          st_skip 3 10 _ true rfl rfl rfl rfl (List.Mem.head _),
          st_skip 3 10 _ true rfl rfl rfl rfl (List.Mem.head _),
          st_plain rfl (op_pick _ _ false _ rfl rfl),
          st_plain rfl (op_assign _ _ _ _ rfl rfl),
          trivial⟩ ?_
      exact hl3 _ (Option.some.inj h).symm

set_option maxHeartbeats 1000000 in
theorem ok_wherryref01_RightLengths (l : (List Int)) (r : Bool) (h : Sh.wherryref01_RightLengths l = some r) : FnOK Try.prog 32 [.fl .shr 1 (List.map (Value.int .i64) l)] (.v (.bool r)) := by
  unfold Sh.wherryref01_RightLengths at h
  refine fn_ok Try.func32 rfl (Nat.le_of_ble_eq_true rfl) rfl rfl fun g0 hn hio => ?_
  refine ht_seq ?_
  refine ht_seqR hn (El := [_, (2, .v (.bool false))]) (init := [0]) (fin := [0]) (sps := [⟨[], [], [1], [(.slot 2)]⟩]) (es' := [(_, _)]) (by kernel_rfl) rfl rfl
    ⟨st_plain rfl (op_assign _ _ _ _ rfl rfl),
      trivial⟩ ?_
  refine pt_then ?_
  refine ht_seq ?_
  refine ht_seq ?_
  refine ht_seqR hn (El := [_, (4, .fl .shr 1 (List.map (Value.int .i64) l)), (5, .v (.int .i64 (l.length : Int))), (6, .v (.bool ((decide (300 < (l.length : Int))))))]) (init := [0]) (fin := [0, 3]) (sps := [⟨[0], [], [1], [(.slot 4)]⟩, ⟨[1], [], [2], [(.slot 5)]⟩, ⟨[2], [], [3], [(.slot 6)]⟩]) (es' := [(_, _), (6, .v (.bool ((decide (300 < (l.length : Int))))))]) (by kernel_rfl) rfl rfl
    ⟨st_plain rfl (op_move _ _ _ _ rfl rfl),
      st_plain rfl (op_len_fl _ _ _ Try.underlying22 rfl (by decide) (map_len _)),
      st_plain rfl (op_bin _ _ _ _ _ rfl rfl rfl),
      trivial⟩ ?_
  refine pt_then ?_
  refine ht_cond _ rfl (fun hb1 => ?_) (fun hb1 => ?_)
  · have h := cond_t hb1 h
    refine ht_seq ?_
    refine ht_seqR hn (El := [_, _, (2, .v (.bool false))]) (init := [0, 1]) (fin := [2]) (sps := [⟨[], [], [2], [(.slot 2)]⟩]) (es' := [(2, .v (.bool false))]) (by kernel_rfl) rfl rfl
      ⟨st_plain rfl (op_assign _ _ _ _ rfl rfl),
        trivial⟩ ?_
    refine pt_then ?_
    refine ht_ret ?_
    refine pt_r_then ?_
    obtain rfl := Option.some.inj h
    exact pt_ret hio rfl (.tmp _ _ .nil) rfl rfl
  · have h := cond_f hb1 h
    refine ht_skip ?_
    refine pt_then ?_
    refine ht_seq ?_
    refine ht_seq ?_
    refine ht_seqR hn (El := [_, _, (3, .v (.int .i64 0))]) (init := [0, 1]) (fin := [0, 2]) (sps := [⟨[], [], [2], [(.slot 3)]⟩]) (es' := [(_, _), (3, .v (.int .i64 0))]) (by kernel_rfl) rfl rfl
      ⟨st_plain rfl (op_assign _ _ _ _ rfl rfl),
        trivial⟩ ?_
    refine pt_then ?_
    refine ht_loopS h (fun (s11 : Int) => [(0, .fl .shr 1 (List.map (Value.int .i64) l)), (3, .v (.int .i64 s11))]) (fun (() : Unit) => []) ?_ ?_
    · rintro ⟨⟩ h
      refine pt_then ?_
      refine ht_seq ?_
      refine ht_seqR hn (El := [(2, .v (.bool true))]) (init := []) (fin := [0]) (sps := [⟨[], [], [0], [(.slot 2)]⟩]) (es' := [(2, .v (.bool true))]) (by kernel_rfl) rfl rfl
        ⟨st_plain rfl (op_assign _ _ _ _ rfl rfl),
          trivial⟩ ?_
      refine pt_then ?_
      refine ht_ret ?_
      obtain rfl := Option.some.inj h
      exact pt_ret hio rfl (.tmp _ _ .nil) rfl rfl
    · rintro u14 hl15 hr16 s11 rr19 h ho17
      refine ht_seq ?_
      refine ht_seq ?_
      refine ht_seqR hn (El := [_, _, (7, .v (.int .i64 s11)), (8, .fl .shr 1 (List.map (Value.int .i64) l)), (9, .v (.int .i64 (l.length : Int))), (10, .v (.bool ((decide (s11 < (l.length : Int))))))]) (init := [0, 1]) (fin := [0, 1, 5]) (sps := [⟨[1], [], [2], [(.slot 7)]⟩, ⟨[0], [], [3], [(.slot 8)]⟩, ⟨[3], [], [4], [(.slot 9)]⟩, ⟨[2, 4], [], [5], [(.slot 10)]⟩]) (es' := [(_, _), (_, _), (10, .v (.bool ((decide (s11 < (l.length : Int))))))]) (by kernel_rfl) rfl rfl
        ⟨st_plain rfl (op_move _ _ _ _ rfl rfl),
          st_plain rfl (op_move _ _ _ _ rfl rfl),
          st_plain rfl (op_len_fl _ _ _ Try.underlying22 rfl (by decide) (map_len _)),
          st_plain rfl (op_bin _ _ _ _ _ rfl rfl rfl),
          trivial⟩ ?_
      refine pt_then ?_
      refine ht_cond _ rfl (fun hb20 => ?_) (fun hb20 => ?_)
      · have h := cond_t hb20 h
        refine ht_skip ?_
        refine pt_then ?_
        refine ht_seq ?_
        refine ht_block ?_
        refine ht_seq ?_
        obtain ⟨v3, hv3, h⟩ := bind_some h
        obtain ⟨v4, hv4, h⟩ := bind_some h
        obtain ⟨v5, hv5, h⟩ := bind_some h
        refine ht_seqR hn (El := [_, _, _, (13, .fl .shr 1 (List.map (Value.int .i64) l)), (14, .v (.int .i64 s11)), (15, .eref (.slot 13) (v3 * 1)), (16, .v (.int .i64 v4)), (17, .v (.bool v5)), (18, .v (.bool (!v5)))]) (init := [0, 1, 2]) (fin := [0, 1, 8]) (sps := [⟨[0], [], [3], [(.slot 13)]⟩, ⟨[1], [], [4], [(.slot 14)]⟩, ⟨[3, 4], [], [5], [(.slot 15)]⟩, ⟨[5, 3], [], [6], [(.slot 16)]⟩, ⟨[6], [], [7], [(.slot 17)]⟩, ⟨[7], [], [8], [(.slot 18)]⟩]) (es' := [(_, _), (_, _), (18, .v (.bool (!v5)))]) (by kernel_rfl) rfl rfl
          ⟨st_plain rfl (op_move _ _ _ _ rfl rfl),
            st_plain rfl (op_move _ _ _ _ rfl rfl),
            st_plain rfl (op_ix _ _ _ _ _ _ _ _ Try.underlying22 sz3 (by decide) rfl rfl rfl (ix_ok hv3).1 (map_lt (ix_ok hv3).2) rfl),
            st_plain rfl (op_load_e _ _ _ _ _ _ Try.underlying3 rfl rfl rfl (map_get hv4)),
            st_plain rfl (op_call _ _ 28 _ _ rfl Try.call28 rfl (ok_wherryref01_in v4 0 15 _ hv5) rfl rfl),
            st_plain rfl (op_un _ _ _ _ rfl rfl),
            trivial⟩ ?_
        refine pt_then ?_
        refine ht_cond _ rfl (fun hb21 => ?_) (fun hb21 => ?_)
        · have h := cond_t hb21 h
          refine ht_seq ?_
          refine ht_seqR hn (El := [_, _, _, (2, .v (.bool false))]) (init := [0, 1, 2]) (fin := [3]) (sps := [⟨[], [], [3], [(.slot 2)]⟩]) (es' := [(2, .v (.bool false))]) (by kernel_rfl) rfl rfl
            ⟨st_plain rfl (op_assign _ _ _ _ rfl rfl),
              trivial⟩ ?_
          refine pt_then ?_
          refine ht_ret ?_
          refine pt_r_in ?_
          refine pt_r_then ?_
          refine pt_r_then ?_
          refine pt_r_in ?_
          refine pt_r_then ?_
          have h := hr16 _ (ho17 _ (Option.some.inj h).symm).symm
          obtain rfl := Option.some.inj h
          exact pt_ret hio rfl (.tmp _ _ .nil) rfl rfl
        · have h := cond_f hb21 h
          refine ht_skip ?_
          refine pt_inb ?_
          refine pt_then ?_
          obtain ⟨v7, hv7, h⟩ := bind_some h
          refine ht_seqR hn (El := [_, _, _, (11, .v (.int .i64 s11)), (12, .v (.int .i64 v7)), (3, .v (.int .i64 v7))]) (init := [0, 1, 2]) (fin := [0, 5]) (sps := [⟨[1], [], [3], [(.slot 11)]⟩, ⟨[3], [], [4], [(.slot 12)]⟩, ⟨[4], [1], [5], [(.slot 3)]⟩]) (es' := [(_, _), (3, .v (.int .i64 v7))]) (by kernel_rfl) rfl rfl
            ⟨st_plain rfl (op_move _ _ _ _ rfl rfl),
              st_plain rfl (op_bin _ _ _ _ _ rfl rfl (ibind (f := Value.int .i64) (Option.some.inj hv7))),
              st_plain rfl (LOp.drop [_] (op_assign _ _ _ _ rfl rfl)),
              trivial⟩ ?_
          exact pt_next _ (Option.some.inj h).symm rfl
      · have h := cond_f hb20 h
        refine ht_exit ?_
        refine pt_x_then ?_
        refine pt_x_then ?_
        refine pt_x_in ?_
        refine pt_pick [] (by kernel_rfl) (es' := []) rfl ?_
        exact hl15 _ (ho17 _ (Option.some.inj h).symm).symm

set_option maxHeartbeats 1000000 in
theorem ok_wherryref01_Weigh (l : (List Int)) (r : Int) (h : Sh.wherryref01_Weigh l = some r) : FnOK Try.prog 18 [.fl .shr 1 (List.map (Value.int .i64) l)] (.v (.int .i64 r)) := by
  unfold Sh.wherryref01_Weigh at h
  refine fn_ok Try.func18 rfl (Nat.le_of_ble_eq_true rfl) rfl rfl fun g0 hn hio => ?_
  refine ht_seq ?_
  refine ht_seqR hn (El := [_, (2, .v (.int .i64 0))]) (init := [0]) (fin := [0]) (sps := [⟨[], [], [1], [(.slot 2)]⟩]) (es' := [(_, _)]) (by kernel_rfl) rfl rfl
    ⟨st_plain rfl (op_assign _ _ _ _ rfl rfl),
      trivial⟩ ?_
  refine pt_then ?_
  refine ht_seq ?_
  refine ht_seq ?_
  obtain ⟨v1, hv1, h⟩ := bind_some h
  refine ht_seqR hn (El := [_, (5, .fl .shr 1 (List.map (Value.int .i64) l)), (6, .v (.bool v1)), (7, .v (.bool (!v1)))]) (init := [0]) (fin := [0, 3]) (sps := [⟨[0], [], [1], [(.slot 5)]⟩, ⟨[1], [], [2], [(.slot 6)]⟩, ⟨[2], [], [3], [(.slot 7)]⟩]) (es' := [(_, _), (7, .v (.bool (!v1)))]) (by kernel_rfl) rfl rfl
    ⟨st_plain rfl (op_move _ _ _ _ rfl rfl),
      st_plain rfl (op_call _ _ 32 _ _ rfl Try.call32 rfl (ok_wherryref01_RightLengths l _ hv1) rfl rfl),
      st_plain rfl (op_un _ _ _ _ rfl rfl),
      trivial⟩ ?_
  refine pt_then ?_
  refine ht_cond _ rfl (fun hb2 => ?_) (fun hb2 => ?_)
  · have h := cond_t hb2 h
    refine ht_seq ?_
    refine ht_seqR hn (El := [_, _, (2, .v (.int .i64 0))]) (init := [0, 1]) (fin := [2]) (sps := [⟨[], [], [2], [(.slot 2)]⟩]) (es' := [(2, .v (.int .i64 0))]) (by kernel_rfl) rfl rfl
      ⟨st_plain rfl (op_assign _ _ _ _ rfl rfl),
        trivial⟩ ?_
    refine pt_then ?_
    refine ht_ret ?_
    refine pt_r_then ?_
    obtain rfl := Option.some.inj h
    exact pt_ret hio rfl (.tmp _ _ .nil) rfl rfl
  · have h := cond_f hb2 h
    refine ht_skip ?_
    refine pt_then ?_
    refine ht_seq ?_
    refine ht_seqR hn (El := [_, _, (3, .v (.int .i64 0))]) (init := [0, 1]) (fin := [0, 2]) (sps := [⟨[], [], [2], [(.slot 3)]⟩]) (es' := [(_, _), (3, .v (.int .i64 0))]) (by kernel_rfl) rfl rfl
      ⟨st_plain rfl (op_assign _ _ _ _ rfl rfl),
        trivial⟩ ?_
    refine pt_then ?_
    refine ht_seq ?_
    refine ht_seq ?_
    refine ht_seqR hn (El := [_, _, (4, .v (.int .i64 0))]) (init := [0, 1]) (fin := [0, 1, 2]) (sps := [⟨[], [], [2], [(.slot 4)]⟩]) (es' := [(_, _), (_, _), (4, .v (.int .i64 0))]) (by kernel_rfl) rfl rfl
      ⟨st_plain rfl (op_assign _ _ _ _ rfl rfl),
        trivial⟩ ?_
    refine pt_then ?_
    refine ht_loopS h (fun ((s28, s29) : Int × Int) => [(0, .fl .shr 1 (List.map (Value.int .i64) l)), (3, .v (.int .i64 s28)), (4, .v (.int .i64 s29))]) (fun (s37 : Int) => [(3, .v (.int .i64 s37))]) ?_ ?_
    · rintro s37 h
      refine pt_then ?_
      refine ht_seq ?_
      refine ht_seqR hn (El := [_, (28, .v (.int .i64 s37)), (2, .v (.int .i64 s37))]) (init := [0]) (fin := [2]) (sps := [⟨[0], [], [1], [(.slot 28)]⟩, ⟨[1], [], [2], [(.slot 2)]⟩]) (es' := [(2, .v (.int .i64 s37))]) (by kernel_rfl) rfl rfl
        ⟨st_plain rfl (op_move _ _ _ _ rfl rfl),
          st_plain rfl (op_assign _ _ _ _ rfl rfl),
          trivial⟩ ?_
      refine pt_then ?_
      refine ht_ret ?_
      obtain rfl := Option.some.inj h
      exact pt_ret hio rfl (.tmp _ _ .nil) rfl rfl
    · rintro u38 hl39 hr40 ⟨s28, s29⟩ rr43 h ho41
      refine ht_seq ?_
      refine ht_seq ?_
      refine ht_seqR hn (El := [_, _, _, (8, .v (.int .i64 s29)), (9, .fl .shr 1 (List.map (Value.int .i64) l)), (10, .v (.int .i64 (l.length : Int))), (11, .v (.bool ((decide (s29 < (l.length : Int))))))]) (init := [0, 1, 2]) (fin := [0, 1, 2, 6]) (sps := [⟨[2], [], [3], [(.slot 8)]⟩, ⟨[0], [], [4], [(.slot 9)]⟩, ⟨[4], [], [5], [(.slot 10)]⟩, ⟨[3, 5], [], [6], [(.slot 11)]⟩]) (es' := [(_, _), (_, _), (_, _), (11, .v (.bool ((decide (s29 < (l.length : Int))))))]) (by kernel_rfl) rfl rfl
        ⟨st_plain rfl (op_move _ _ _ _ rfl rfl),
          st_plain rfl (op_move _ _ _ _ rfl rfl),
          st_plain rfl (op_len_fl _ _ _ Try.underlying22 rfl (by decide) (map_len _)),
          st_plain rfl (op_bin _ _ _ _ _ rfl rfl rfl),
          trivial⟩ ?_
      refine pt_then ?_
      refine ht_cond _ rfl (fun hb44 => ?_) (fun hb44 => ?_)
      · have h := cond_t hb44 h
        refine ht_skip ?_
        refine pt_then ?_
        refine ht_seq ?_
        refine ht_joinS h (fun (s46 : Int) => [(0, .fl .shr 1 (List.map (Value.int .i64) l)), (4, .v (.int .i64 s29)), (3, .v (.int .i64 s46))]) ?_ ?_
        · rintro s46 h
          refine pt_then ?_
          obtain ⟨v18, hv18, h⟩ := bind_some h
          refine ht_seqR hn (El := [_, _, _, (12, .v (.int .i64 s29)), (13, .v (.int .i64 v18)), (4, .v (.int .i64 v18))]) (init := [0, 1, 2]) (fin := [0, 2, 5]) (sps := [⟨[1], [], [3], [(.slot 12)]⟩, ⟨[3], [], [4], [(.slot 13)]⟩, ⟨[4], [1], [5], [(.slot 4)]⟩]) (es' := [(_, _), (_, _), (4, .v (.int .i64 v18))]) (by kernel_rfl) rfl rfl
            ⟨st_plain rfl (op_move _ _ _ _ rfl rfl),
              st_plain rfl (op_bin _ _ _ _ _ rfl rfl (ibind (f := Value.int .i64) (Option.some.inj hv18))),
              st_plain rfl (LOp.drop [_] (op_assign _ _ _ _ rfl rfl)),
              trivial⟩ ?_
          exact pt_next _ (Option.some.inj h).symm rfl
        · intro u47 h hl48 hr49
          refine ht_block ?_
          refine ht_seq ?_
          obtain ⟨v4, hv4, h⟩ := bind_some h
          obtain ⟨v5, hv5, h⟩ := bind_some h
          refine ht_seqR hn (El := [_, _, _, _, (14, .fl .shr 1 (List.map (Value.int .i64) l)), (15, .v (.int .i64 s29)), (16, .eref (.slot 14) (v4 * 1)), (17, .v (.int .i64 v5)), (18, .v (.bool ((decide (0 < v5)))))]) (init := [0, 1, 2, 3]) (fin := [0, 1, 2, 8]) (sps := [⟨[0], [], [4], [(.slot 14)]⟩, ⟨[2], [], [5], [(.slot 15)]⟩, ⟨[4, 5], [], [6], [(.slot 16)]⟩, ⟨[6, 4], [], [7], [(.slot 17)]⟩, ⟨[7], [], [8], [(.slot 18)]⟩]) (es' := [(_, _), (_, _), (_, _), (18, .v (.bool ((decide (0 < v5)))))]) (by kernel_rfl) rfl rfl
            ⟨st_plain rfl (op_move _ _ _ _ rfl rfl),
              st_plain rfl (op_move _ _ _ _ rfl rfl),
              st_plain rfl (op_ix _ _ _ _ _ _ _ _ Try.underlying22 sz3 (by decide) rfl rfl rfl (ix_ok hv4).1 (map_lt (ix_ok hv4).2) rfl),
              st_plain rfl (op_load_e _ _ _ _ _ _ Try.underlying3 rfl rfl rfl (map_get hv5)),
              st_plain rfl (op_bin _ _ _ _ _ rfl rfl rfl),
              trivial⟩ ?_
          refine pt_then ?_
          refine ht_cond _ rfl (fun hb50 => ?_) (fun hb50 => ?_)
          · have h := cond_t hb50 h
            obtain ⟨v7, hv7, h⟩ := bind_some h
            obtain ⟨v8, hv8, h⟩ := bind_some h
            obtain ⟨v9, hv9, h⟩ := bind_some h
            obtain ⟨v10, hv10, h⟩ := bind_some h
            obtain ⟨v11, hv11, h⟩ := bind_some h
            obtain ⟨v12, hv12, h⟩ := bind_some h
            refine ht_seqR hn (El := [_, _, _, _, (19, .v (.int .i64 s28)), (20, .fl .shr 1 (List.map (Value.int .i64) l)), (21, .v (.int .i64 s29)), (22, .eref (.slot 20) (v7 * 1)), (23, .v (.int .i64 v8)), (24, .v (.int .i64 v9)), (25, .v (.int .u64 v10)), (26, .v (.int .i64 v11)), (27, .v (.int .i64 v12)), (3, .v (.int .i64 v12))]) (init := [0, 1, 2, 3]) (fin := [0, 2, 13]) (sps := [⟨[1], [], [4], [(.slot 19)]⟩, ⟨[0], [], [5], [(.slot 20)]⟩, ⟨[2], [], [6], [(.slot 21)]⟩, ⟨[5, 6], [], [7], [(.slot 22)]⟩, ⟨[7, 5], [], [8], [(.slot 23)]⟩, ⟨[8], [], [9], [(.slot 24)]⟩, ⟨[9], [], [10], [(.slot 25)]⟩, ⟨[10], [], [11], [(.slot 26)]⟩, ⟨[4, 11], [], [12], [(.slot 27)]⟩, ⟨[12], [1], [13], [(.slot 3)]⟩]) (es' := [(_, _), (_, _), (3, .v (.int .i64 v12))]) (by kernel_rfl) rfl rfl
              ⟨st_plain rfl (op_move _ _ _ _ rfl rfl),
                st_plain rfl (op_move _ _ _ _ rfl rfl),
                st_plain rfl (op_move _ _ _ _ rfl rfl),
                st_plain rfl (op_ix _ _ _ _ _ _ _ _ Try.underlying22 sz3 (by decide) rfl rfl rfl (ix_ok hv7).1 (map_lt (ix_ok hv7).2) rfl),
                st_plain rfl (op_load_e _ _ _ _ _ _ Try.underlying3 rfl rfl rfl (map_get hv8)),
                st_plain rfl (op_bin _ _ _ _ _ rfl rfl (ibind (f := Value.int .i64) (Option.some.inj hv9))),
                st_plain rfl ((Option.some.inj hv10) ▸ op_conv _ _ _ Try.underlying3 Try.underlying37 rfl),
                st_plain rfl (op_bin _ _ _ _ _ rfl rfl (shl_ok hv11)),
                st_plain rfl (op_bin _ _ _ _ _ rfl rfl (ibind (f := Value.int .i64) (Option.some.inj hv12))),
                st_plain rfl (LOp.drop [_] (op_assign _ _ _ _ rfl rfl)),
                trivial⟩ ?_
            refine pt_inb ?_
            exact hl48 _ (Option.some.inj h).symm
          · have h := cond_f hb50 h
            refine ht_skip ?_
            refine pt_inb ?_
            refine pt_pick [0, 2, 1] (by kernel_rfl) (es' := [(_, _), (_, _), (_, _)]) rfl ?_
            exact hl48 _ (Option.some.inj h).symm
      · have h := cond_f hb44 h
        refine ht_exit ?_
        refine pt_x_then ?_
        refine pt_x_then ?_
        refine pt_x_in ?_
        refine pt_pick [1] (by kernel_rfl) (es' := [(_, _)]) rfl ?_
        exact hl39 _ (ho41 _ (Option.some.inj h).symm).symm

set_option maxHeartbeats 1000000 in
theorem ok_wherryref01_makes (l : (List Int)) (r : Bool) (h : Sh.wherryref01_makes l = some r) : FnOK Try.prog 33 [.fl .shr 1 (List.map (Value.int .i64) l)] (.v (.bool r)) := by
  unfold Sh.wherryref01_makes at h
  refine fn_ok Try.func33 rfl (Nat.le_of_ble_eq_true rfl) rfl rfl fun g0 hn hio => ?_
  refine ht_seq ?_
  refine ht_seqR hn (El := [_, (2, .v (.bool false))]) (init := [0]) (fin := [0]) (sps := [⟨[], [], [1], [(.slot 2)]⟩]) (es' := [(_, _)]) (by kernel_rfl) rfl rfl
    ⟨st_plain rfl (op_assign _ _ _ _ rfl rfl),
      trivial⟩ ?_
  refine pt_then ?_
  refine ht_seq ?_
  refine ht_seqR hn (El := [_, (3, .v (.int .i64 0)), (4, .v (.int .i64 0))]) (init := [0]) (fin := [0, 1, 2]) (sps := [⟨[], [], [1], [(.slot 3)]⟩, ⟨[], [], [2], [(.slot 4)]⟩]) (es' := [(_, _), (3, .v (.int .i64 0)), (4, .v (.int .i64 0))]) (by kernel_rfl) rfl rfl
    ⟨st_plain rfl (op_assign _ _ _ _ rfl rfl),
      st_plain rfl (op_assign _ _ _ _ rfl rfl),
      trivial⟩ ?_
  refine pt_then ?_
  refine ht_seq ?_
  refine ht_seq ?_
  refine ht_seqR hn (El := [_, _, _, (5, .v (.int .i64 0))]) (init := [0, 1, 2]) (fin := [0, 1, 2, 3]) (sps := [⟨[], [], [3], [(.slot 5)]⟩]) (es' := [(_, _), (_, _), (_, _), (5, .v (.int .i64 0))]) (by kernel_rfl) rfl rfl
    ⟨st_plain rfl (op_assign _ _ _ _ rfl rfl),
      trivial⟩ ?_
  refine pt_then ?_
  refine ht_loopS h (fun ((s26, s27, s28) : Int × Int × Int) => [(0, .fl .shr 1 (List.map (Value.int .i64) l)), (3, .v (.int .i64 s26)), (4, .v (.int .i64 s27)), (5, .v (.int .i64 s28))]) (fun ((s37, s38) : Int × Int) => [(0, .fl .shr 1 (List.map (Value.int .i64) l)), (3, .v (.int .i64 s37)), (4, .v (.int .i64 s38))]) ?_ ?_
  · rintro ⟨s37, s38⟩ h
    refine pt_then ?_
    refine ht_seq ?_
    refine ht_joinS h (fun (s55 : Bool) => [(2, .v (.bool s55))]) ?_ ?_
    · rintro s55 h
      refine pt_then ?_
      refine ht_ret ?_
      obtain rfl := Option.some.inj h
      exact pt_ret hio rfl (.tmp _ _ .nil) rfl rfl
    · intro u56 h hl57 hr58
      refine cond_some h (fun hg7_2 h => ?_) (fun hg7_2 h => ?_)
      · refine ht_seqR hn (El := (_ :: _ :: _ :: (23, .v (.int .i64 s37)) :: (24, .v (.bool (s37 == 0))) :: (25, .v (.bool true)) :: (26, .v undef) :: (27, .v undef) :: (28, .v undef) :: (29, .v undef) :: (30, .v undef) :: (31, .v undef) :: (32, .v (.bool true)) :: (33, .v (.bool true)) :: (34, .v undef) :: (35, .v undef) :: (36, .v undef) :: (37, .v (.bool true)) :: (2, .v (.bool true)) :: [])) (init := [0, 1, 2]) (fin := [18]) (sps := (⟨[1], [], [3], [(.slot 23)]⟩ :: ⟨[3], [], [4], [(.slot 24)]⟩ :: ⟨[4], [], [5], [(.slot 25)]⟩ :: ⟨[5], [], [6], [(.slot 26)]⟩ :: ⟨[5], [], [7], [(.slot 27)]⟩ :: ⟨[5], [], [8], [(.slot 28)]⟩ :: ⟨[8], [], [9], [(.slot 29)]⟩ :: ⟨[8], [], [10], [(.slot 30)]⟩ :: ⟨[5], [], [11], [(.slot 31)]⟩ :: ⟨[5], [], [12], [(.slot 32)]⟩ :: ⟨[12], [], [13], [(.slot 33)]⟩ :: ⟨[13], [], [14], [(.slot 34)]⟩ :: ⟨[13], [], [15], [(.slot 35)]⟩ :: ⟨[13], [], [16], [(.slot 36)]⟩ :: ⟨[13], [], [17], [(.slot 37)]⟩ :: ⟨[17], [], [18], [(.slot 2)]⟩ :: [])) (es' := [(2, .v (.bool true))]) (by kernel_rfl) rfl rfl
          ⟨st_plain rfl (op_move _ _ _ _ rfl rfl),
            st_plain rfl (op_bin _ _ _ _ _ rfl rfl rfl),
            st_plain rfl (op_move _ _ _ _ (congrArg (fun b => AV.v (Value.bool b)) hg7_2) rfl),
            st_skip 2 25 _ false rfl rfl rfl rfl (List.Mem.head _),
            st_skip 2 25 _ false rfl rfl rfl rfl (List.Mem.head _),
            st_skip 2 25 _ false rfl rfl rfl rfl (List.Mem.head _),
            st_skipU 5 28 _ true rfl rfl rfl rfl (List.Mem.head _),
            st_skipU 5 28 _ true rfl rfl rfl rfl (List.Mem.head _),
            st_skip 2 25 _ false rfl rfl rfl rfl (List.Mem.head _),
            st_plain rfl (op_pick _ _ true _ rfl rfl),
            st_plain rfl (op_move _ _ _ _ rfl rfl),
            st_skip 10 33 _ false rfl rfl rfl rfl (List.Mem.head _),
            st_skip 10 33 _ false rfl rfl rfl rfl (List.Mem.head _),
            st_skip 10 33 _ false rfl rfl rfl rfl (List.Mem.head _),
            st_plain rfl (op_pick _ _ true _ rfl rfl),
            st_plain rfl (op_assign _ _ _ _ rfl rfl),
            trivial⟩ ?_
        exact hl57 _ (Option.some.inj h).symm
      · refine cond_some h (fun hg7_5 h => ?_) (fun hg7_5 h => ?_)
        · refine cond_some h (fun hg7_10 h => ?_) (fun hg7_10 h => ?_)
          · refine ht_seqR hn (El := (_ :: _ :: _ :: (23, .v (.int .i64 s37)) :: (24, .v (.bool (s37 == 0))) :: (25, .v (.bool false)) :: (26, .v (.int .i64 s37)) :: (27, .v (.bool (s37 == 1))) :: (28, .v (.bool true)) :: (29, .v (.int .i64 s38)) :: (30, .v (.bool (s38 == 1))) :: (31, .v (.bool (s38 == 1))) :: (32, .v (.bool (s38 == 1))) :: (33, .v (.bool true)) :: (34, .v undef) :: (35, .v undef) :: (36, .v undef) :: (37, .v (.bool true)) :: (2, .v (.bool true)) :: [])) (init := [0, 1, 2]) (fin := [18]) (sps := (⟨[1], [], [3], [(.slot 23)]⟩ :: ⟨[3], [], [4], [(.slot 24)]⟩ :: ⟨[4], [], [5], [(.slot 25)]⟩ :: ⟨[5, 1], [], [6], [(.slot 26)]⟩ :: ⟨[5, 6], [], [7], [(.slot 27)]⟩ :: ⟨[5, 7], [], [8], [(.slot 28)]⟩ :: ⟨[8, 2], [], [9], [(.slot 29)]⟩ :: ⟨[8, 9], [], [10], [(.slot 30)]⟩ :: ⟨[5, 8, 10], [], [11], [(.slot 31)]⟩ :: ⟨[5, 11], [], [12], [(.slot 32)]⟩ :: ⟨[12], [], [13], [(.slot 33)]⟩ :: ⟨[13], [], [14], [(.slot 34)]⟩ :: ⟨[13], [], [15], [(.slot 35)]⟩ :: ⟨[13], [], [16], [(.slot 36)]⟩ :: ⟨[13], [], [17], [(.slot 37)]⟩ :: ⟨[17], [], [18], [(.slot 2)]⟩ :: [])) (es' := [(2, .v (.bool true))]) (by kernel_rfl) rfl rfl
              ⟨st_plain rfl (op_move _ _ _ _ rfl rfl),
                st_plain rfl (op_bin _ _ _ _ _ rfl rfl rfl),
                st_plain rfl (op_move _ _ _ _ (congrArg (fun b => AV.v (Value.bool b)) hg7_2) rfl),
                st_run 2 25 false rfl rfl rfl (List.Mem.head _) (op_move _ _ _ _ rfl rfl),
                st_run 2 25 false rfl rfl rfl (List.Mem.head _) (op_bin _ _ _ _ _ rfl rfl rfl),
                st_run 2 25 false rfl rfl rfl (List.Mem.head _) (op_move _ _ _ _ (congrArg (fun b => AV.v (Value.bool b)) hg7_5) rfl),
                st_run 5 28 true rfl rfl rfl (List.Mem.head _) (op_move _ _ _ _ rfl rfl),
                st_run 5 28 true rfl rfl rfl (List.Mem.head _) (op_bin _ _ _ _ _ rfl rfl rfl),
                st_run 2 25 false rfl rfl rfl (List.Mem.head _) (op_pick _ _ true _ rfl rfl),
                st_plain rfl (op_pick _ _ false _ rfl rfl),
                st_plain rfl (op_move _ _ _ _ (congrArg (fun b => AV.v (Value.bool b)) hg7_10) rfl),
                st_skip 10 33 _ false rfl rfl rfl rfl (List.Mem.head _),
                st_skip 10 33 _ false rfl rfl rfl rfl (List.Mem.head _),
                st_skip 10 33 _ false rfl rfl rfl rfl (List.Mem.head _),
                st_plain rfl (op_pick _ _ true _ rfl rfl),
                st_plain rfl (op_assign _ _ _ _ rfl rfl),
                trivial⟩ ?_
            exact hl57 _ (Option.some.inj h).symm
          · obtain ⟨v53, hv53, h⟩ := bind_some h
            refine ht_seqR hn (El := (_ :: _ :: _ :: (23, .v (.int .i64 s37)) :: (24, .v (.bool (s37 == 0))) :: (25, .v (.bool false)) :: (26, .v (.int .i64 s37)) :: (27, .v (.bool (s37 == 1))) :: (28, .v (.bool true)) :: (29, .v (.int .i64 s38)) :: (30, .v (.bool (s38 == 1))) :: (31, .v (.bool (s38 == 1))) :: (32, .v (.bool (s38 == 1))) :: (33, .v (.bool false)) :: (34, .fl .shr 1 (List.map (Value.int .i64) l)) :: (35, .v (.int .i64 v53)) :: (36, .v (.bool (v53 == 32768))) :: (37, .v (.bool (v53 == 32768))) :: (2, .v (.bool (v53 == 32768))) :: [])) (init := [0, 1, 2]) (fin := [18]) (sps := (⟨[1], [], [3], [(.slot 23)]⟩ :: ⟨[3], [], [4], [(.slot 24)]⟩ :: ⟨[4], [], [5], [(.slot 25)]⟩ :: ⟨[5, 1], [], [6], [(.slot 26)]⟩ :: ⟨[5, 6], [], [7], [(.slot 27)]⟩ :: ⟨[5, 7], [], [8], [(.slot 28)]⟩ :: ⟨[8, 2], [], [9], [(.slot 29)]⟩ :: ⟨[8, 9], [], [10], [(.slot 30)]⟩ :: ⟨[5, 8, 10], [], [11], [(.slot 31)]⟩ :: ⟨[5, 11], [], [12], [(.slot 32)]⟩ :: ⟨[12], [], [13], [(.slot 33)]⟩ :: ⟨[13, 0], [], [14], [(.slot 34)]⟩ :: ⟨[13, 14], [], [15], [(.slot 35)]⟩ :: ⟨[13, 15], [], [16], [(.slot 36)]⟩ :: ⟨[13, 16], [], [17], [(.slot 37)]⟩ :: ⟨[17], [], [18], [(.slot 2)]⟩ :: [])) (es' := [(2, .v (.bool (v53 == 32768)))]) (by kernel_rfl) rfl rfl
              ⟨st_plain rfl (op_move _ _ _ _ rfl rfl),
                st_plain rfl (op_bin _ _ _ _ _ rfl rfl rfl),
                st_plain rfl (op_move _ _ _ _ (congrArg (fun b => AV.v (Value.bool b)) hg7_2) rfl),
                st_run 2 25 false rfl rfl rfl (List.Mem.head _) (op_move _ _ _ _ rfl rfl),
                st_run 2 25 false rfl rfl rfl (List.Mem.head _) (op_bin _ _ _ _ _ rfl rfl rfl),
                st_run 2 25 false rfl rfl rfl (List.Mem.head _) (op_move _ _ _ _ (congrArg (fun b => AV.v (Value.bool b)) hg7_5) rfl),
                st_run 5 28 true rfl rfl rfl (List.Mem.head _) (op_move _ _ _ _ rfl rfl),
                st_run 5 28 true rfl rfl rfl (List.Mem.head _) (op_bin _ _ _ _ _ rfl rfl rfl),
                st_run 2 25 false rfl rfl rfl (List.Mem.head _) (op_pick _ _ true _ rfl rfl),
                st_plain rfl (op_pick _ _ false _ rfl rfl),
                st_plain rfl (op_move _ _ _ _ (congrArg (fun b => AV.v (Value.bool b)) hg7_10) rfl),
                st_run 10 33 false rfl rfl rfl (List.Mem.head _) (op_move _ _ _ _ rfl rfl),
                st_run 10 33 false rfl rfl rfl (List.Mem.head _) (op_call _ _ 18 _ _ rfl Try.call18 rfl (ok_wherryref01_Weigh l _ hv53) rfl rfl),
                st_run 10 33 false rfl rfl rfl (List.Mem.head _) (op_bin _ _ _ _ _ rfl rfl rfl),
                st_plain rfl (op_pick _ _ false _ rfl rfl),
                st_plain rfl (op_assign _ _ _ _ rfl rfl),
                trivial⟩ ?_
            exact hl57 _ (Option.some.inj h).symm
        · obtain ⟨v54, hv54, h⟩ := bind_some h
          refine ht_seqR hn (El := (_ :: _ :: _ :: (23, .v (.int .i64 s37)) :: (24, .v (.bool (s37 == 0))) :: (25, .v (.bool false)) :: (26, .v (.int .i64 s37)) :: (27, .v (.bool (s37 == 1))) :: (28, .v (.bool false)) :: (29, .v undef) :: (30, .v undef) :: (31, .v (.bool false)) :: (32, .v (.bool false)) :: (33, .v (.bool false)) :: (34, .fl .shr 1 (List.map (Value.int .i64) l)) :: (35, .v (.int .i64 v54)) :: (36, .v (.bool (v54 == 32768))) :: (37, .v (.bool (v54 == 32768))) :: (2, .v (.bool (v54 == 32768))) :: [])) (init := [0, 1, 2]) (fin := [18]) (sps := (⟨[1], [], [3], [(.slot 23)]⟩ :: ⟨[3], [], [4], [(.slot 24)]⟩ :: ⟨[4], [], [5], [(.slot 25)]⟩ :: ⟨[5, 1], [], [6], [(.slot 26)]⟩ :: ⟨[5, 6], [], [7], [(.slot 27)]⟩ :: ⟨[5, 7], [], [8], [(.slot 28)]⟩ :: ⟨[8], [], [9], [(.slot 29)]⟩ :: ⟨[8], [], [10], [(.slot 30)]⟩ :: ⟨[5, 8], [], [11], [(.slot 31)]⟩ :: ⟨[5, 11], [], [12], [(.slot 32)]⟩ :: ⟨[12], [], [13], [(.slot 33)]⟩ :: ⟨[13, 0], [], [14], [(.slot 34)]⟩ :: ⟨[13, 14], [], [15], [(.slot 35)]⟩ :: ⟨[13, 15], [], [16], [(.slot 36)]⟩ :: ⟨[13, 16], [], [17], [(.slot 37)]⟩ :: ⟨[17], [], [18], [(.slot 2)]⟩ :: [])) (es' := [(2, .v (.bool (v54 == 32768)))]) (by kernel_rfl) rfl rfl
            ⟨st_plain rfl (op_move _ _ _ _ rfl rfl),
              st_plain rfl (op_bin _ _ _ _ _ rfl rfl rfl),
              st_plain rfl (op_move _ _ _ _ (congrArg (fun b => AV.v (Value.bool b)) hg7_2) rfl),
              st_run 2 25 false rfl rfl rfl (List.Mem.head _) (op_move _ _ _ _ rfl rfl),
              st_run 2 25 false rfl rfl rfl (List.Mem.head _) (op_bin _ _ _ _ _ rfl rfl rfl),
              st_run 2 25 false rfl rfl rfl (List.Mem.head _) (op_move _ _ _ _ (congrArg (fun b => AV.v (Value.bool b)) hg7_5) rfl),
              st_skip 5 28 _ true rfl rfl rfl rfl (List.Mem.head _),
              st_skip 5 28 _ true rfl rfl rfl rfl (List.Mem.head _),
              st_run 2 25 false rfl rfl rfl (List.Mem.head _) (op_pick _ _ false _ rfl rfl),
              st_plain rfl (op_pick _ _ false _ rfl rfl),
              st_plain rfl (op_move _ _ _ _ rfl rfl),
              st_run 10 33 false rfl rfl rfl (List.Mem.head _) (op_move _ _ _ _ rfl rfl),
              st_run 10 33 false rfl rfl rfl (List.Mem.head _) (op_call _ _ 18 _ _ rfl Try.call18 rfl (ok_wherryref01_Weigh l _ hv54) rfl rfl),
              st_run 10 33 false rfl rfl rfl (List.Mem.head _) (op_bin _ _ _ _ _ rfl rfl rfl),
              st_plain rfl (op_pick _ _ false _ rfl rfl),
              st_plain rfl (op_assign _ _ _ _ rfl rfl),
              trivial⟩ ?_
          exact hl57 _ (Option.some.inj h).symm
  · rintro u39 hl40 hr41 ⟨s26, s27, s28⟩ rr44 h ho42
    refine ht_seq ?_
    refine ht_seq ?_
    refine ht_seqR hn (El := [_, _, _, _, (6, .v (.int .i64 s28)), (7, .fl .shr 1 (List.map (Value.int .i64) l)), (8, .v (.int .i64 (l.length : Int))), (9, .v (.bool ((decide (s28 < (l.length : Int))))))]) (init := [0, 1, 2, 3]) (fin := [0, 1, 2, 3, 7]) (sps := [⟨[3], [], [4], [(.slot 6)]⟩, ⟨[0], [], [5], [(.slot 7)]⟩, ⟨[5], [], [6], [(.slot 8)]⟩, ⟨[4, 6], [], [7], [(.slot 9)]⟩]) (es' := [(_, _), (_, _), (_, _), (_, _), (9, .v (.bool ((decide (s28 < (l.length : Int))))))]) (by kernel_rfl) rfl rfl
      ⟨st_plain rfl (op_move _ _ _ _ rfl rfl),
        st_plain rfl (op_move _ _ _ _ rfl rfl),
        st_plain rfl (op_len_fl _ _ _ Try.underlying22 rfl (by decide) (map_len _)),
        st_plain rfl (op_bin _ _ _ _ _ rfl rfl rfl),
        trivial⟩ ?_
    refine pt_then ?_
    refine ht_cond _ rfl (fun hb45 => ?_) (fun hb45 => ?_)
    · have h := cond_t hb45 h
      refine ht_skip ?_
      refine pt_then ?_
      refine ht_seq ?_
      refine ht_joinS h (fun ((s47, s48) : Int × Int) => [(0, .fl .shr 1 (List.map (Value.int .i64) l)), (5, .v (.int .i64 s28)), (3, .v (.int .i64 s47)), (4, .v (.int .i64 s48))]) ?_ ?_
      · rintro ⟨s47, s48⟩ h
        refine pt_then ?_
        obtain ⟨v14, hv14, h⟩ := bind_some h
        refine ht_seqR hn (El := [_, _, _, _, (10, .v (.int .i64 s28)), (11, .v (.int .i64 v14)), (5, .v (.int .i64 v14))]) (init := [0, 1, 2, 3]) (fin := [0, 2, 3, 6]) (sps := [⟨[1], [], [4], [(.slot 10)]⟩, ⟨[4], [], [5], [(.slot 11)]⟩, ⟨[5], [1], [6], [(.slot 5)]⟩]) (es' := [(_, _), (_, _), (_, _), (5, .v (.int .i64 v14))]) (by kernel_rfl) rfl rfl
          ⟨st_plain rfl (op_move _ _ _ _ rfl rfl),
            st_plain rfl (op_bin _ _ _ _ _ rfl rfl (ibind (f := Value.int .i64) (Option.some.inj hv14))),
            st_plain rfl (LOp.drop [_] (op_assign _ _ _ _ rfl rfl)),
            trivial⟩ ?_
        exact pt_next _ (Option.some.inj h).symm rfl
      · intro u49 h hl50 hr51
        refine ht_block ?_
        refine ht_seq ?_
        obtain ⟨v2, hv2, h⟩ := bind_some h
        obtain ⟨v3, hv3, h⟩ := bind_some h
        refine ht_seqR hn (El := [_, _, _, _, _, (12, .fl .shr 1 (List.map (Value.int .i64) l)), (13, .v (.int .i64 s28)), (14, .eref (.slot 12) (v2 * 1)), (15, .v (.int .i64 v3)), (16, .v (.bool ((decide (0 < v3)))))]) (init := [0, 1, 2, 3, 4]) (fin := [0, 1, 2, 3, 9]) (sps := [⟨[0], [], [5], [(.slot 12)]⟩, ⟨[3], [], [6], [(.slot 13)]⟩, ⟨[5, 6], [], [7], [(.slot 14)]⟩, ⟨[7, 5], [], [8], [(.slot 15)]⟩, ⟨[8], [], [9], [(.slot 16)]⟩]) (es' := [(_, _), (_, _), (_, _), (_, _), (16, .v (.bool ((decide (0 < v3)))))]) (by kernel_rfl) rfl rfl
          ⟨st_plain rfl (op_move _ _ _ _ rfl rfl),
            st_plain rfl (op_move _ _ _ _ rfl rfl),
            st_plain rfl (op_ix _ _ _ _ _ _ _ _ Try.underlying22 sz3 (by decide) rfl rfl rfl (ix_ok hv2).1 (map_lt (ix_ok hv2).2) rfl),
            st_plain rfl (op_load_e _ _ _ _ _ _ Try.underlying3 rfl rfl rfl (map_get hv3)),
            st_plain rfl (op_bin _ _ _ _ _ rfl rfl rfl),
            trivial⟩ ?_
        refine pt_then ?_
        refine ht_cond _ rfl (fun hb52 => ?_) (fun hb52 => ?_)
        · have h := cond_t hb52 h
          obtain ⟨v5, hv5, h⟩ := bind_some h
          obtain ⟨v6, hv6, h⟩ := bind_some h
          obtain ⟨v7, hv7, h⟩ := bind_some h
          refine ht_anyR (by kernel_rfl) hn (El := [_, _, _, _, _, (17, .v (.int .i64 s26)), (18, .v (.int .i64 v5)), (19, .fl .shr 1 (List.map (Value.int .i64) l)), (20, .v (.int .i64 s28)), (21, .eref (.slot 19) (v6 * 1)), (22, .v (.int .i64 v7)), (3, .v (.int .i64 v5)), (4, .v (.int .i64 v7))]) (init := [0, 1, 2, 3, 4]) (fin := [0, 3, 11, 12]) (sps := [⟨[1], [], [5], [(.slot 17)]⟩, ⟨[5], [], [6], [(.slot 18)]⟩, ⟨[0], [], [7], [(.slot 19)]⟩, ⟨[3], [], [8], [(.slot 20)]⟩, ⟨[7, 8], [], [9], [(.slot 21)]⟩, ⟨[9, 7], [], [10], [(.slot 22)]⟩, ⟨[6], [1], [11], [(.slot 3)]⟩, ⟨[10], [2], [12], [(.slot 4)]⟩]) (es' := [(_, _), (_, _), (3, .v (.int .i64 v5)), (4, .v (.int .i64 v7))]) (by kernel_rfl) rfl rfl
            ⟨st_plain rfl (op_move _ _ _ _ rfl rfl),
              st_plain rfl (op_bin _ _ _ _ _ rfl rfl (ibind (f := Value.int .i64) (Option.some.inj hv5))),
              st_plain rfl (op_move _ _ _ _ rfl rfl),
              st_plain rfl (op_move _ _ _ _ rfl rfl),
              st_plain rfl (op_ix _ _ _ _ _ _ _ _ Try.underlying22 sz3 (by decide) rfl rfl rfl (ix_ok hv6).1 (map_lt (ix_ok hv6).2) rfl),
              st_plain rfl (op_load_e _ _ _ _ _ _ Try.underlying3 rfl rfl rfl (map_get hv7)),
              st_plain rfl (LOp.drop [_] (op_assign _ _ _ _ rfl rfl)),
              st_plain rfl (LOp.drop [_] (op_assign _ _ _ _ rfl rfl)),
              trivial⟩ ?_
          refine pt_inb ?_
          exact hl50 _ (Option.some.inj h).symm
        · have h := cond_f hb52 h
          refine ht_skip ?_
          refine pt_inb ?_
          refine pt_pick [0, 3, 1, 2] (by kernel_rfl) (es' := [(_, _), (_, _), (_, _), (_, _)]) rfl ?_
          exact hl50 _ (Option.some.inj h).symm
    · have h := cond_f hb45 h
      refine ht_exit ?_
      refine pt_x_then ?_
      refine pt_x_then ?_
      refine pt_x_in ?_
      refine pt_pick [0, 1, 2] (by kernel_rfl) (es' := [(_, _), (_, _), (_, _)]) rfl ?_
      exact hl40 _ (ho42 _ (Option.some.inj h).symm).symm

set_option maxHeartbeats 1000000 in
theorem ok_wherryref01_CheckLengths (l : (List Int)) (r : Int) (h : Sh.wherryref01_CheckLengths l = some r) : FnOK Try.prog 16 [.fl .shr 1 (List.map (Value.int .i64) l)] (.v (.int .i64 r)) := by
  unfold Sh.wherryref01_CheckLengths at h
  refine fn_ok Try.func16 rfl (Nat.le_of_ble_eq_true rfl) rfl rfl fun g0 hn hio => ?_
  refine ht_seq ?_
  refine ht_seqR hn (El := [_, (2, .v (.int .i64 0))]) (init := [0]) (fin := [0]) (sps := [⟨[], [], [1], [(.slot 2)]⟩]) (es' := [(_, _)]) (by kernel_rfl) rfl rfl
    ⟨st_plain rfl (op_assign _ _ _ _ rfl rfl),
      trivial⟩ ?_
  refine pt_then ?_
  refine ht_seq ?_
  refine ht_seq ?_
  obtain ⟨v1, hv1, h⟩ := bind_some h
  refine ht_seqR hn (El := [_, (3, .fl .shr 1 (List.map (Value.int .i64) l)), (4, .v (.bool v1)), (5, .v (.bool (!v1)))]) (init := [0]) (fin := [0, 3]) (sps := [⟨[0], [], [1], [(.slot 3)]⟩, ⟨[1], [], [2], [(.slot 4)]⟩, ⟨[2], [], [3], [(.slot 5)]⟩]) (es' := [(_, _), (5, .v (.bool (!v1)))]) (by kernel_rfl) rfl rfl
    ⟨st_plain rfl (op_move _ _ _ _ rfl rfl),
      st_plain rfl (op_call _ _ 32 _ _ rfl Try.call32 rfl (ok_wherryref01_RightLengths l _ hv1) rfl rfl),
      st_plain rfl (op_un _ _ _ _ rfl rfl),
      trivial⟩ ?_
  refine pt_then ?_
  refine ht_cond _ rfl (fun hb2 => ?_) (fun hb2 => ?_)
  · have h := cond_t hb2 h
    refine ht_seq ?_
    refine ht_seqR hn (El := [_, _, (2, .v (.int .i64 1))]) (init := [0, 1]) (fin := [2]) (sps := [⟨[], [], [2], [(.slot 2)]⟩]) (es' := [(2, .v (.int .i64 1))]) (by kernel_rfl) rfl rfl
      ⟨st_plain rfl (op_assign _ _ _ _ rfl rfl),
        trivial⟩ ?_
    refine pt_then ?_
    refine ht_ret ?_
    refine pt_r_then ?_
    obtain rfl := Option.some.inj h
    exact pt_ret hio rfl (.tmp _ _ .nil) rfl rfl
  · have h := cond_f hb2 h
    refine ht_skip ?_
    refine pt_then ?_
    refine ht_seq ?_
    refine ht_seq ?_
    obtain ⟨v3, hv3, h⟩ := bind_some h
    refine ht_seqR hn (El := [_, _, (6, .fl .shr 1 (List.map (Value.int .i64) l)), (7, .v (.bool v3)), (8, .v (.bool (!v3)))]) (init := [0, 1]) (fin := [4]) (sps := [⟨[0], [], [2], [(.slot 6)]⟩, ⟨[2], [], [3], [(.slot 7)]⟩, ⟨[3], [], [4], [(.slot 8)]⟩]) (es' := [(8, .v (.bool (!v3)))]) (by kernel_rfl) rfl rfl
      ⟨st_plain rfl (op_move _ _ _ _ rfl rfl),
        st_plain rfl (op_call _ _ 33 _ _ rfl Try.call33 rfl (ok_wherryref01_makes l _ hv3) rfl rfl),
        st_plain rfl (op_un _ _ _ _ rfl rfl),
        trivial⟩ ?_
    refine pt_then ?_
    refine ht_cond _ rfl (fun hb4 => ?_) (fun hb4 => ?_)
    · have h := cond_t hb4 h
      refine ht_seq ?_
      refine ht_seqR hn (El := [_, (2, .v (.int .i64 4))]) (init := [0]) (fin := [1]) (sps := [⟨[], [], [1], [(.slot 2)]⟩]) (es' := [(2, .v (.int .i64 4))]) (by kernel_rfl) rfl rfl
        ⟨st_plain rfl (op_assign _ _ _ _ rfl rfl),
          trivial⟩ ?_
      refine pt_then ?_
      refine ht_ret ?_
      refine pt_r_then ?_
      obtain rfl := Option.some.inj h
      exact pt_ret hio rfl (.tmp _ _ .nil) rfl rfl
    · have h := cond_f hb4 h
      refine ht_skip ?_
      refine pt_then ?_
      refine ht_seq ?_
      refine ht_seqR hn (El := [_, (2, .v (.int .i64 0))]) (init := [0]) (fin := [1]) (sps := [⟨[], [], [1], [(.slot 2)]⟩]) (es' := [(2, .v (.int .i64 0))]) (by kernel_rfl) rfl rfl
        ⟨st_plain rfl (op_assign _ _ _ _ rfl rfl),
          trivial⟩ ?_
      refine pt_then ?_
      refine ht_ret ?_
      obtain rfl := Option.some.inj h
      exact pt_ret hio rfl (.tmp _ _ .nil) rfl rfl

set_option maxHeartbeats 1000000 in
theorem ok_wherryref01_codes (l : (List Int)) (r : (List Int)) (h : Sh.wherryref01_codes l = some r) : FnOK Try.prog 26 [.fl .shr 1 (List.map (Value.int .i64) l)] (.fl (.own 3) 1 (List.map (Value.int .i64) r)) := by
  unfold Sh.wherryref01_codes at h
  refine fn_ok Try.func26 rfl (Nat.le_of_ble_eq_true rfl) rfl rfl fun g0 hn hio => ?_
  refine ht_seq ?_
  refine ht_seqR hn (El := [_, (2, .v (.slice none 0 0))]) (init := [0]) (fin := [0]) (sps := [⟨[], [], [1], [(.slot 2)]⟩]) (es' := [(_, _)]) (by kernel_rfl) rfl rfl
    ⟨st_plain rfl (op_assign _ _ _ _ rfl rfl),
      trivial⟩ ?_
  refine pt_then ?_
  refine ht_seq ?_
  obtain ⟨v1, hv1, h⟩ := bind_some h
  refine ht_seqR hn (El := [_, (7, .fl .shr 1 (List.map (Value.int .i64) l)), (8, .v (.int .i64 (l.length : Int))), (9, .fl (.own 3) 1 (List.map (Value.int .i64) v1)), (3, .fl (.own 3) 1 (List.map (Value.int .i64) v1))]) (init := [0]) (fin := [0, 4]) (sps := [⟨[0], [], [1], [(.slot 7)]⟩, ⟨[1], [], [2], [(.slot 8)]⟩, ⟨[2], [], [3], [(.slot 9)]⟩, ⟨[], [3], [4], [(.slot 3)]⟩]) (es' := [(_, _), (3, .fl (.own 3) 1 (List.map (Value.int .i64) v1))]) (by kernel_rfl) rfl rfl
    ⟨st_plain rfl (op_move _ _ _ _ rfl rfl),
      st_plain rfl (op_len_fl _ _ _ Try.underlying22 rfl (by decide) (map_len _)),
      st_plain rfl (op_mk (f := Value.int .i64) _ _ _ _ el22 (by decide) zr3 rfl rfl rfl hv1),
      st_plain rfl (op_assign_take _ _ _ _ rfl),
      trivial⟩ ?_
  refine pt_then ?_
  refine ht_seq ?_
  refine ht_seqR hn (El := [_, _, (4, .v (.int .i64 0))]) (init := [0, 1]) (fin := [0, 1, 2]) (sps := [⟨[], [], [2], [(.slot 4)]⟩]) (es' := [(_, _), (_, _), (4, .v (.int .i64 0))]) (by kernel_rfl) rfl rfl
    ⟨st_plain rfl (op_assign _ _ _ _ rfl rfl),
      trivial⟩ ?_
  refine pt_then ?_
  refine ht_seq ?_
  refine ht_seq ?_
  refine ht_seqR hn (El := [_, _, _, (5, .v (.int .i64 1))]) (init := [0, 1, 2]) (fin := [0, 1, 2, 3]) (sps := [⟨[], [], [3], [(.slot 5)]⟩]) (es' := [(_, _), (_, _), (_, _), (5, .v (.int .i64 1))]) (by kernel_rfl) rfl rfl
    ⟨st_plain rfl (op_assign _ _ _ _ rfl rfl),
      trivial⟩ ?_
  refine pt_then ?_
  refine ht_loopS h (fun ((s107, s108, s109) : (List Int) × Int × Int) => [(0, .fl .shr 1 (List.map (Value.int .i64) l)), (3, .fl (.own 3) 1 (List.map (Value.int .i64) s107)), (4, .v (.int .i64 s108)), (5, .v (.int .i64 s109))]) (fun (s157 : (List Int)) => [(3, .fl (.own 3) 1 (List.map (Value.int .i64) s157))]) ?_ ?_
  · rintro s157 h
    refine pt_then ?_
    refine ht_seq ?_
    refine ht_seqR hn (El := [_, (34, .fl (.own 3) 1 (List.map (Value.int .i64) s157)), (2, .fl (.own 3) 1 (List.map (Value.int .i64) s157))]) (init := [0]) (fin := [2]) (sps := [⟨[], [0], [1], [(.slot 34)]⟩, ⟨[], [1], [2], [(.slot 2)]⟩]) (es' := [(2, .fl (.own 3) 1 (List.map (Value.int .i64) s157))]) (by kernel_rfl) rfl rfl
      ⟨st_plain rfl (op_move_take _ _ _ _ rfl),
        st_plain rfl (op_assign_take _ _ _ _ rfl),
        trivial⟩ ?_
    refine pt_then ?_
    refine ht_ret ?_
    obtain rfl := Option.some.inj h
    exact pt_ret hio rfl (.tmp _ _ .nil) rfl rfl
  · rintro u158 hl159 hr160 ⟨s107, s108, s109⟩ rr163 h ho161
    refine ht_seq ?_
    refine ht_seq ?_
    refine ht_seqR hn (El := [_, _, _, _, (10, .v (.int .i64 s109)), (11, .v (.bool ((decide (s109 ≤ 15)))))]) (init := [0, 1, 2, 3]) (fin := [0, 1, 2, 3, 5]) (sps := [⟨[3], [], [4], [(.slot 10)]⟩, ⟨[4], [], [5], [(.slot 11)]⟩]) (es' := [(_, _), (_, _), (_, _), (_, _), (11, .v (.bool ((decide (s109 ≤ 15)))))]) (by kernel_rfl) rfl rfl
      ⟨st_plain rfl (op_move _ _ _ _ rfl rfl),
        st_plain rfl (op_bin _ _ _ _ _ rfl rfl rfl),
        trivial⟩ ?_
    refine pt_then ?_
    refine ht_cond _ rfl (fun hb164 => ?_) (fun hb164 => ?_)
    · have h := cond_t hb164 h
      refine ht_skip ?_
      refine pt_then ?_
      refine ht_seq ?_
      refine ht_block ?_
      refine ht_seq ?_
      obtain ⟨v3, hv3, h⟩ := bind_some h
      refine ht_seqR hn (El := [_, _, _, _, _, (14, .v (.int .i64 s108)), (15, .v (.int .i64 v3)), (4, .v (.int .i64 v3))]) (init := [0, 1, 2, 3, 4]) (fin := [0, 1, 3, 7]) (sps := [⟨[2], [], [5], [(.slot 14)]⟩, ⟨[5], [], [6], [(.slot 15)]⟩, ⟨[6], [2], [7], [(.slot 4)]⟩]) (es' := [(_, _), (_, _), (_, _), (4, .v (.int .i64 v3))]) (by kernel_rfl) rfl rfl
        ⟨st_plain rfl (op_move _ _ _ _ rfl rfl),
          st_plain rfl (op_bin _ _ _ _ _ rfl rfl (ibind (f := Value.int .i64) (Option.some.inj hv3))),
          st_plain rfl (LOp.drop [_] (op_assign _ _ _ _ rfl rfl)),
          trivial⟩ ?_
      refine pt_then ?_
      refine ht_seq ?_
      refine ht_seqR hn (El := [_, _, _, _, (6, .v (.int .i64 0))]) (init := [0, 1, 2, 3]) (fin := [0, 1, 2, 3, 4]) (sps := [⟨[], [], [4], [(.slot 6)]⟩]) (es' := [(_, _), (_, _), (_, _), (_, _), (6, .v (.int .i64 0))]) (by kernel_rfl) rfl rfl
        ⟨st_plain rfl (op_assign _ _ _ _ rfl rfl),
          trivial⟩ ?_
      refine pt_then ?_
      refine ht_loopS h (fun ((s184, s185, s186) : (List Int) × Int × Int) => [(0, .fl .shr 1 (List.map (Value.int .i64) l)), (3, .fl (.own 3) 1 (List.map (Value.int .i64) s184)), (5, .v (.int .i64 s109)), (4, .v (.int .i64 s185)), (6, .v (.int .i64 s186))]) (fun ((s195, s196) : (List Int) × Int) => [(0, .fl .shr 1 (List.map (Value.int .i64) l)), (3, .fl (.own 3) 1 (List.map (Value.int .i64) s195)), (5, .v (.int .i64 s109)), (4, .v (.int .i64 s196))]) ?_ ?_
      · rintro ⟨s195, s196⟩ h
        refine pt_inb ?_
        refine pt_then ?_
        obtain ⟨v56, hv56, h⟩ := bind_some h
        refine ht_seqR hn (El := [_, _, _, _, (12, .v (.int .i64 s109)), (13, .v (.int .i64 v56)), (5, .v (.int .i64 v56))]) (init := [0, 1, 2, 3]) (fin := [0, 1, 3, 6]) (sps := [⟨[2], [], [4], [(.slot 12)]⟩, ⟨[4], [], [5], [(.slot 13)]⟩, ⟨[5], [2], [6], [(.slot 5)]⟩]) (es' := [(_, _), (_, _), (_, _), (5, .v (.int .i64 v56))]) (by kernel_rfl) rfl rfl
          ⟨st_plain rfl (op_move _ _ _ _ rfl rfl),
            st_plain rfl (op_bin _ _ _ _ _ rfl rfl (ibind (f := Value.int .i64) (Option.some.inj hv56))),
            st_plain rfl (LOp.drop [_] (op_assign _ _ _ _ rfl rfl)),
            trivial⟩ ?_
        exact pt_next _ (Option.some.inj h).symm rfl
      · rintro u197 hl198 hr199 ⟨s184, s185, s186⟩ rr202 h ho200
        refine ht_seq ?_
        refine ht_seq ?_
        refine ht_seqR hn (El := [_, _, _, _, _, (16, .v (.int .i64 s186)), (17, .fl .shr 1 (List.map (Value.int .i64) l)), (18, .v (.int .i64 (l.length : Int))), (19, .v (.bool ((decide (s186 < (l.length : Int))))))]) (init := [0, 1, 2, 3, 4]) (fin := [0, 1, 2, 3, 4, 8]) (sps := [⟨[4], [], [5], [(.slot 16)]⟩, ⟨[0], [], [6], [(.slot 17)]⟩, ⟨[6], [], [7], [(.slot 18)]⟩, ⟨[5, 7], [], [8], [(.slot 19)]⟩]) (es' := [(_, _), (_, _), (_, _), (_, _), (_, _), (19, .v (.bool ((decide (s186 < (l.length : Int))))))]) (by kernel_rfl) rfl rfl
          ⟨st_plain rfl (op_move _ _ _ _ rfl rfl),
            st_plain rfl (op_move _ _ _ _ rfl rfl),
            st_plain rfl (op_len_fl _ _ _ Try.underlying22 rfl (by decide) (map_len _)),
            st_plain rfl (op_bin _ _ _ _ _ rfl rfl rfl),
            trivial⟩ ?_
        refine pt_then ?_
        refine ht_cond _ rfl (fun hb203 => ?_) (fun hb203 => ?_)
        · have h := cond_t hb203 h
          refine ht_skip ?_
          refine pt_then ?_
          refine ht_seq ?_
          refine ht_joinS h (fun ((s205, s206) : (List Int) × Int) => [(0, .fl .shr 1 (List.map (Value.int .i64) l)), (3, .fl (.own 3) 1 (List.map (Value.int .i64) s205)), (5, .v (.int .i64 s109)), (6, .v (.int .i64 s186)), (4, .v (.int .i64 s206))]) ?_ ?_
          · rintro ⟨s205, s206⟩ h
            refine pt_then ?_
            obtain ⟨v17, hv17, h⟩ := bind_some h
            refine ht_seqR hn (El := [_, _, _, _, _, (20, .v (.int .i64 s186)), (21, .v (.int .i64 v17)), (6, .v (.int .i64 v17))]) (init := [0, 1, 2, 3, 4]) (fin := [0, 1, 2, 4, 7]) (sps := [⟨[3], [], [5], [(.slot 20)]⟩, ⟨[5], [], [6], [(.slot 21)]⟩, ⟨[6], [3], [7], [(.slot 6)]⟩]) (es' := [(_, _), (_, _), (_, _), (_, _), (6, .v (.int .i64 v17))]) (by kernel_rfl) rfl rfl
              ⟨st_plain rfl (op_move _ _ _ _ rfl rfl),
                st_plain rfl (op_bin _ _ _ _ _ rfl rfl (ibind (f := Value.int .i64) (Option.some.inj hv17))),
                st_plain rfl (LOp.drop [_] (op_assign _ _ _ _ rfl rfl)),
                trivial⟩ ?_
            exact pt_next _ (Option.some.inj h).symm rfl
          · intro u207 h hl208 hr209
            refine ht_block ?_
            refine ht_seq ?_
            obtain ⟨v5, hv5, h⟩ := bind_some h
            obtain ⟨v6, hv6, h⟩ := bind_some h
            refine ht_seqR hn (El := [_, _, _, _, _, _, (22, .fl .shr 1 (List.map (Value.int .i64) l)), (23, .v (.int .i64 s186)), (24, .eref (.slot 22) (v5 * 1)), (25, .v (.int .i64 v6)), (26, .v (.int .i64 s109)), (27, .v (.bool (v6 == s109)))]) (init := [0, 1, 2, 3, 4, 5]) (fin := [0, 1, 2, 3, 4, 11]) (sps := [⟨[0], [], [6], [(.slot 22)]⟩, ⟨[4], [], [7], [(.slot 23)]⟩, ⟨[6, 7], [], [8], [(.slot 24)]⟩, ⟨[8, 6], [], [9], [(.slot 25)]⟩, ⟨[2], [], [10], [(.slot 26)]⟩, ⟨[9, 10], [], [11], [(.slot 27)]⟩]) (es' := [(_, _), (_, _), (_, _), (_, _), (_, _), (27, .v (.bool (v6 == s109)))]) (by kernel_rfl) rfl rfl
              ⟨st_plain rfl (op_move _ _ _ _ rfl rfl),
                st_plain rfl (op_move _ _ _ _ rfl rfl),
                st_plain rfl (op_ix _ _ _ _ _ _ _ _ Try.underlying22 sz3 (by decide) rfl rfl rfl (ix_ok hv5).1 (map_lt (ix_ok hv5).2) rfl),
                st_plain rfl (op_load_e _ _ _ _ _ _ Try.underlying3 rfl rfl rfl (map_get hv6)),
                st_plain rfl (op_move _ _ _ _ rfl rfl),
                st_plain rfl (op_bin _ _ _ _ _ rfl rfl rfl),
                trivial⟩ ?_
            refine pt_then ?_
            refine ht_cond _ rfl (fun hb210 => ?_) (fun hb210 => ?_)
            · have h := cond_t hb210 h
              refine ht_seq ?_
              obtain ⟨v8, hv8, h⟩ := bind_some h
              obtain ⟨v9, hv9, h⟩ := bind_some h
              refine ht_seqR hn (El := [_, _, _, _, _, _, (28, .same (.slot 3)), (29, .v (.int .i64 s186)), (30, .v (.int .i64 s185)), (31, .eref (.slot 3) (v8 * 1)), (3, .fl (.own 3) 1 (List.map (Value.int .i64) v9))]) (init := [0, 1, 2, 3, 4, 5]) (fin := [0, 10, 2, 3, 4]) (sps := [⟨[1], [], [6], [(.slot 28)]⟩, ⟨[4], [], [7], [(.slot 29)]⟩, ⟨[3], [], [8], [(.slot 30)]⟩, ⟨[6, 1, 7], [], [9], [(.slot 31)]⟩, ⟨[9, 8], [1], [10], []⟩]) (es' := [(_, _), (3, .fl (.own 3) 1 (List.map (Value.int .i64) v9)), (_, _), (_, _), (_, _)]) (by kernel_rfl) rfl rfl
                ⟨st_plain rfl (op_move _ _ _ _ rfl rfl),
                  st_plain rfl (op_move _ _ _ _ rfl rfl),
                  st_plain rfl (op_move _ _ _ _ rfl rfl),
                  st_plain rfl (op_ix _ _ _ _ _ _ _ _ Try.underlying22 sz3 (by decide) rfl rfl rfl (ix_ok hv8).1 (map_lt (ix_ok hv8).2) rfl),
                  st_plain rfl (op_store_e _ _ _ _ _ _ _ _ sz3 rfl rfl rfl (by decide) (map_lt (ix_ok hv8).2) ((map_set (f := Value.int .i64) _ (ix_ok hv8).2).trans (congrArg (List.map _) (Option.some.inj hv9)))),
                  trivial⟩ ?_
              refine pt_then ?_
              obtain ⟨v10, hv10, h⟩ := bind_some h
              refine ht_seqR hn (El := [_, _, _, _, _, (32, .v (.int .i64 s185)), (33, .v (.int .i64 v10)), (4, .v (.int .i64 v10))]) (init := [0, 1, 2, 3, 4]) (fin := [0, 1, 2, 4, 7]) (sps := [⟨[3], [], [5], [(.slot 32)]⟩, ⟨[5], [], [6], [(.slot 33)]⟩, ⟨[6], [3], [7], [(.slot 4)]⟩]) (es' := [(_, _), (_, _), (_, _), (_, _), (4, .v (.int .i64 v10))]) (by kernel_rfl) rfl rfl
                ⟨st_plain rfl (op_move _ _ _ _ rfl rfl),
                  st_plain rfl (op_bin _ _ _ _ _ rfl rfl (ibind (f := Value.int .i64) (Option.some.inj hv10))),
                  st_plain rfl (LOp.drop [_] (op_assign _ _ _ _ rfl rfl)),
                  trivial⟩ ?_
              refine pt_inb ?_
              exact hl208 _ (Option.some.inj h).symm
            · have h := cond_f hb210 h
              refine ht_skip ?_
              refine pt_inb ?_
              refine pt_pick [0, 1, 2, 4, 3] (by kernel_rfl) (es' := [(_, _), (_, _), (_, _), (_, _), (_, _)]) rfl ?_
              exact hl208 _ (Option.some.inj h).symm
        · have h := cond_f hb203 h
          refine ht_exit ?_
          refine pt_x_then ?_
          refine pt_x_then ?_
          refine pt_x_in ?_
          refine pt_pick [0, 1, 2, 3] (by kernel_rfl) (es' := [(_, _), (_, _), (_, _), (_, _)]) rfl ?_
          exact hl198 _ (ho200 _ (Option.some.inj h).symm).symm
    · have h := cond_f hb164 h
      refine ht_exit ?_
      refine pt_x_then ?_
      refine pt_x_then ?_
      refine pt_x_in ?_
      refine pt_pick [1] (by kernel_rfl) (es' := [(_, _)]) rfl ?_
      exact hl159 _ (ho161 _ (Option.some.inj h).symm).symm

set_option maxHeartbeats 1000000 in
theorem ok_wherryref01_Codes (l : (List Int)) (r : ((List Int) × Int)) (h : Sh.wherryref01_Codes l = some r) : FnOK Try.prog 12 [.fl .shr 1 (List.map (Value.int .i64) l)] (.tup [.fl (.own 3) 1 (List.map (Value.int .i64) r.1), .v (.int .i64 r.2)]) := by
  unfold Sh.wherryref01_Codes at h
  refine fn_ok Try.func12 rfl (Nat.le_of_ble_eq_true rfl) rfl rfl fun g0 hn hio => ?_
  refine ht_seq ?_
  refine ht_seqR hn (El := [_, (2, .v (.slice none 0 0)), (3, .v (.int .i64 0))]) (init := [0]) (fin := [0]) (sps := [⟨[], [], [1], [(.slot 2)]⟩, ⟨[], [], [2], [(.slot 3)]⟩]) (es' := [(_, _)]) (by kernel_rfl) rfl rfl
    ⟨st_plain rfl (op_assign _ _ _ _ rfl rfl),
      st_plain rfl (op_assign _ _ _ _ rfl rfl),
      trivial⟩ ?_
  refine pt_then ?_
  refine ht_seq ?_
  refine ht_seq ?_
  obtain ⟨v1, hv1, h⟩ := bind_some h
  refine ht_seqR hn (El := [_, (5, .fl .shr 1 (List.map (Value.int .i64) l)), (6, .v (.int .i64 v1)), (4, .v (.int .i64 v1))]) (init := [0]) (fin := [0, 3]) (sps := [⟨[0], [], [1], [(.slot 5)]⟩, ⟨[1], [], [2], [(.slot 6)]⟩, ⟨[2], [], [3], [(.slot 4)]⟩]) (es' := [(_, _), (4, .v (.int .i64 v1))]) (by kernel_rfl) rfl rfl
    ⟨st_plain rfl (op_move _ _ _ _ rfl rfl),
      st_plain rfl (op_call _ _ 16 _ _ rfl Try.call16 rfl (ok_wherryref01_CheckLengths l _ hv1) rfl rfl),
      st_plain rfl (op_assign _ _ _ _ rfl rfl),
      trivial⟩ ?_
  refine pt_then ?_
  refine ht_seq ?_
  refine ht_seqR hn (El := [_, _, (7, .v (.int .i64 v1)), (8, .v (.bool (v1 != 0)))]) (init := [0, 1]) (fin := [0, 1, 3]) (sps := [⟨[1], [], [2], [(.slot 7)]⟩, ⟨[2], [], [3], [(.slot 8)]⟩]) (es' := [(_, _), (_, _), (8, .v (.bool (v1 != 0)))]) (by kernel_rfl) rfl rfl
    ⟨st_plain rfl (op_move _ _ _ _ rfl rfl),
      st_plain rfl (op_bin _ _ _ _ _ rfl rfl rfl),
      trivial⟩ ?_
  refine pt_then ?_
  refine ht_cond _ rfl (fun hb2 => ?_) (fun hb2 => ?_)
  · have h := cond_t hb2 h
    refine ht_seq ?_
    refine ht_seqR hn (El := [_, _, _, (9, .v (.int .i64 v1)), (2, .v (.slice none 0 0)), (3, .v (.int .i64 v1))]) (init := [0, 1, 2]) (fin := [4, 5]) (sps := [⟨[1], [], [3], [(.slot 9)]⟩, ⟨[], [], [4], [(.slot 2)]⟩, ⟨[3], [], [5], [(.slot 3)]⟩]) (es' := [(2, .v (.slice none 0 0)), (3, .v (.int .i64 v1))]) (by kernel_rfl) rfl rfl
      ⟨st_plain rfl (op_move _ _ _ _ rfl rfl),
        st_plain rfl (op_assign _ _ _ _ rfl rfl),
        st_plain rfl (op_assign _ _ _ _ rfl rfl),
        trivial⟩ ?_
    refine pt_then ?_
    refine ht_ret ?_
    refine pt_sub (fs := [(2, .fl (.own 3) 1 (List.map (Value.int .i64) [])), (3, .v (.int .i64 v1))]) (.sub _ (sub_nil 3 1) rfl (.same _ .nil)) ?_
    refine pt_r_then ?_
    obtain rfl := Option.some.inj h
    exact pt_ret hio rfl (.tmp _ _ (.tmp _ _ .nil)) rfl rfl
  · have h := cond_f hb2 h
    refine ht_skip ?_
    refine pt_then ?_
    refine ht_seq ?_
    obtain ⟨v3, hv3, h⟩ := bind_some h
    refine ht_seqR hn (El := [_, _, _, (10, .fl .shr 1 (List.map (Value.int .i64) l)), (11, .fl (.own 3) 1 (List.map (Value.int .i64) v3)), (2, .fl (.own 3) 1 (List.map (Value.int .i64) v3)), (3, .v (.int .i64 0))]) (init := [0, 1, 2]) (fin := [5, 6]) (sps := [⟨[0], [], [3], [(.slot 10)]⟩, ⟨[3], [], [4], [(.slot 11)]⟩, ⟨[], [4], [5], [(.slot 2)]⟩, ⟨[], [], [6], [(.slot 3)]⟩]) (es' := [(2, .fl (.own 3) 1 (List.map (Value.int .i64) v3)), (3, .v (.int .i64 0))]) (by kernel_rfl) rfl rfl
      ⟨st_plain rfl (op_move _ _ _ _ rfl rfl),
        st_plain rfl (op_call _ _ 26 _ _ rfl Try.call26 rfl (ok_wherryref01_codes l _ hv3) rfl rfl),
        st_plain rfl (op_assign_take _ _ _ _ rfl),
        st_plain rfl (op_assign _ _ _ _ rfl rfl),
        trivial⟩ ?_
    refine pt_then ?_
    refine ht_ret ?_
    obtain rfl := Option.some.inj h
    exact pt_ret hio rfl (.tmp _ _ (.tmp _ _ .nil)) rfl rfl

set_option maxHeartbeats 1000000 in
theorem ok_canon_nth (lengths : (List Int)) (n : Int) (k : Int) (r : Int) (h : Sh.canon_nth lengths n k = some r) : FnOK Try.prog 27 [.fl .shr 1 (List.map (Value.int .i64) lengths), .v (.int .i64 n), .v (.int .i64 k)] (.v (.int .i64 r)) := by
  unfold Sh.canon_nth at h
  refine fn_ok Try.func27 rfl (Nat.le_of_ble_eq_true rfl) rfl rfl fun g0 hn hio => ?_
  refine ht_seq ?_
  refine ht_seqR hn (El := [_, _, _, (6, .v (.int .i64 0))]) (init := [0, 1, 2]) (fin := [0, 1, 2]) (sps := [⟨[], [], [3], [(.slot 6)]⟩]) (es' := [(_, _), (_, _), (_, _)]) (by kernel_rfl) rfl rfl
    ⟨st_plain rfl (op_assign _ _ _ _ rfl rfl),
      trivial⟩ ?_
  refine pt_then ?_
  refine ht_seq ?_
  refine ht_seq ?_
  refine ht_seqR hn (El := [_, _, _, (9, .fl .shr 1 (List.map (Value.int .i64) lengths)), (10, .v (.int .i64 (lengths.length : Int))), (11, .v (.int .i64 0))]) (init := [0, 1, 2]) (fin := [1, 2, 3, 4, 5]) (sps := [⟨[0], [], [3], [(.slot 9)]⟩, ⟨[3], [], [4], [(.slot 10)]⟩, ⟨[], [], [5], [(.slot 11)]⟩]) (es' := [(_, _), (_, _), (9, .fl .shr 1 (List.map (Value.int .i64) lengths)), (10, .v (.int .i64 (lengths.length : Int))), (11, .v (.int .i64 0))]) (by kernel_rfl) rfl rfl
    ⟨st_plain rfl (op_move _ _ _ _ rfl rfl),
      st_plain rfl (op_len_fl _ _ _ Try.underlying22 rfl (by decide) (map_len _)),
      st_plain rfl (op_move _ _ _ _ rfl rfl),
      trivial⟩ ?_
  refine pt_then ?_
  refine ht_loopS h (fun ((s25, s26) : Int × Int) => [(1, .v (.int .i64 n)), (2, .v (.int .i64 s25)), (9, .fl .shr 1 (List.map (Value.int .i64) lengths)), (10, .v (.int .i64 (lengths.length : Int))), (11, .v (.int .i64 s26))]) (fun (() : Unit) => []) ?_ ?_
  · rintro ⟨⟩ h
    refine pt_then ?_
    refine ht_seq ?_
    refine ht_seqR hn (El := [(6, .v (.int .i64 0))]) (init := []) (fin := [0]) (sps := [⟨[], [], [0], [(.slot 6)]⟩]) (es' := [(6, .v (.int .i64 0))]) (by kernel_rfl) rfl rfl
      ⟨st_plain rfl (op_assign _ _ _ _ rfl rfl),
        trivial⟩ ?_
    refine pt_then ?_
    refine ht_ret ?_
    obtain rfl := Option.some.inj h
    exact pt_ret hio rfl (.tmp _ _ .nil) rfl rfl
  · rintro u36 hl37 hr38 ⟨s25, s26⟩ rr41 h ho39
    refine ht_seq ?_
    refine ht_seqR hn (El := [_, _, _, _, _, (12, .v (.bool ((decide (s26 < (lengths.length : Int))))))]) (init := [0, 1, 2, 3, 4]) (fin := [0, 1, 2, 3, 4, 5]) (sps := [⟨[4, 3], [], [5], [(.slot 12)]⟩]) (es' := [(_, _), (_, _), (_, _), (_, _), (_, _), (12, .v (.bool ((decide (s26 < (lengths.length : Int))))))]) (by kernel_rfl) rfl rfl
      ⟨st_plain rfl (op_bin _ _ _ _ _ rfl rfl rfl),
        trivial⟩ ?_
    refine pt_then ?_
    refine ht_seq ?_
    refine ht_cond _ rfl (fun hb42 => ?_) (fun hb42 => ?_)
    · have h := cond_t hb42 h
      refine ht_skip ?_
      refine pt_then ?_
      refine ht_seq ?_
      refine ht_joinS h (fun (s45 : Int) => [(1, .v (.int .i64 n)), (2, .v (.int .i64 s45)), (9, .fl .shr 1 (List.map (Value.int .i64) lengths)), (10, .v (.int .i64 (lengths.length : Int))), (11, .v (.int .i64 s26))]) ?_ ?_
      · rintro s45 h
        refine pt_then ?_
        obtain ⟨v13, hv13, h⟩ := bind_some h
        refine ht_seqR hn (El := [_, _, _, _, _, (24, .v (.int .i64 v13)), (11, .v (.int .i64 v13))]) (init := [0, 1, 2, 3, 4]) (fin := [0, 1, 2, 3, 6]) (sps := [⟨[4], [], [5], [(.slot 24)]⟩, ⟨[5], [4], [6], [(.slot 11)]⟩]) (es' := [(_, _), (_, _), (_, _), (_, _), (11, .v (.int .i64 v13))]) (by kernel_rfl) rfl rfl
          ⟨st_plain rfl (op_bin _ _ _ _ _ rfl rfl (ibind (f := Value.int .i64) (Option.some.inj hv13))),
            st_plain rfl (LOp.drop [_] (op_move _ _ _ _ rfl rfl)),
            trivial⟩ ?_
        exact pt_next _ (Option.some.inj h).symm rfl
      · intro u46 h hl47 hr48
        refine ht_block ?_
        refine ht_seq ?_
        obtain ⟨v2, hv2, h⟩ := bind_some h
        obtain ⟨v3, hv3, h⟩ := bind_some h
        refine ht_seqR hn (El := [_, _, _, _, _, _, (13, .v (.int .i64 s26)), (14, .eref (.slot 9) (v2 * 1)), (15, .v (.int .i64 v3)), (7, .v (.int .i64 s26)), (8, .v (.int .i64 v3))]) (init := [0, 1, 2, 3, 4, 5]) (fin := [0, 1, 2, 3, 4, 9, 10]) (sps := [⟨[4], [], [6], [(.slot 13)]⟩, ⟨[2, 4], [], [7], [(.slot 14)]⟩, ⟨[7, 2], [], [8], [(.slot 15)]⟩, ⟨[6], [], [9], [(.slot 7)]⟩, ⟨[8], [], [10], [(.slot 8)]⟩]) (es' := [(_, _), (_, _), (_, _), (_, _), (_, _), (7, .v (.int .i64 s26)), (8, .v (.int .i64 v3))]) (by kernel_rfl) rfl rfl
          ⟨st_plain rfl (op_move _ _ _ _ rfl rfl),
            st_plain rfl (op_ix _ _ _ _ _ _ _ _ Try.underlying22 sz3 (by decide) rfl rfl rfl (ix_ok hv2).1 (map_lt (ix_ok hv2).2) rfl),
            st_plain rfl (op_load_e _ _ _ _ _ _ Try.underlying3 rfl rfl rfl (map_get hv3)),
            st_plain rfl (op_assign _ _ _ _ rfl rfl),
            st_plain rfl (op_assign _ _ _ _ rfl rfl),
            trivial⟩ ?_
        refine pt_then ?_
        refine ht_seq ?_
        refine ht_seq ?_
        refine ht_seqR hn (El := [_, _, _, _, _, _, _, (16, .v (.int .i64 v3)), (17, .v (.int .i64 n)), (18, .v (.bool (v3 != n)))]) (init := [0, 1, 2, 3, 4, 5, 6]) (fin := [0, 1, 2, 3, 4, 5, 9]) (sps := [⟨[6], [], [7], [(.slot 16)]⟩, ⟨[0], [], [8], [(.slot 17)]⟩, ⟨[7, 8], [], [9], [(.slot 18)]⟩]) (es' := [(_, _), (_, _), (_, _), (_, _), (_, _), (_, _), (18, .v (.bool (v3 != n)))]) (by kernel_rfl) rfl rfl
          ⟨st_plain rfl (op_move _ _ _ _ rfl rfl),
            st_plain rfl (op_move _ _ _ _ rfl rfl),
            st_plain rfl (op_bin _ _ _ _ _ rfl rfl rfl),
            trivial⟩ ?_
        refine pt_then ?_
        refine ht_cond _ rfl (fun hb49 => ?_) (fun hb49 => ?_)
        · have h := cond_t hb49 h
          refine ht_exit ?_
          refine pt_x_then ?_
          refine pt_x_in ?_
          refine pt_pick [0, 1, 2, 3, 4] (by kernel_rfl) (es' := [(_, _), (_, _), (_, _), (_, _), (_, _)]) rfl ?_
          exact hl47 _ (Option.some.inj h).symm
        · have h := cond_f hb49 h
          refine ht_skip ?_
          refine pt_then ?_
          refine ht_seq ?_
          refine ht_seq ?_
          refine ht_seqR hn (El := [_, _, _, _, _, _, _, (19, .v (.int .i64 s25)), (20, .v (.bool (s25 == 0)))]) (init := [0, 1, 2, 3, 4, 5, 6]) (fin := [0, 1, 2, 3, 4, 5, 8]) (sps := [⟨[1], [], [7], [(.slot 19)]⟩, ⟨[7], [], [8], [(.slot 20)]⟩]) (es' := [(_, _), (_, _), (_, _), (_, _), (_, _), (_, _), (20, .v (.bool (s25 == 0)))]) (by kernel_rfl) rfl rfl
            ⟨st_plain rfl (op_move _ _ _ _ rfl rfl),
              st_plain rfl (op_bin _ _ _ _ _ rfl rfl rfl),
              trivial⟩ ?_
          refine pt_then ?_
          refine ht_cond _ rfl (fun hb50 => ?_) (fun hb50 => ?_)
          · have h := cond_t hb50 h
            refine ht_seq ?_
            refine ht_seqR hn (El := [_, _, _, _, _, _, _, (21, .v (.int .i64 s26)), (6, .v (.int .i64 s26))]) (init := [0, 1, 2, 3, 4, 5, 6]) (fin := [8]) (sps := [⟨[5], [], [7], [(.slot 21)]⟩, ⟨[7], [], [8], [(.slot 6)]⟩]) (es' := [(6, .v (.int .i64 s26))]) (by kernel_rfl) rfl rfl
              ⟨st_plain rfl (op_move _ _ _ _ rfl rfl),
                st_plain rfl (op_assign _ _ _ _ rfl rfl),
                trivial⟩ ?_
            refine pt_then ?_
            refine ht_ret ?_
            refine pt_r_then ?_
            refine pt_r_in ?_
            refine pt_r_then ?_
            refine pt_r_then ?_
            refine pt_r_in ?_
            refine pt_r_then ?_
            have h := hr48 _ (Option.some.inj h).symm
            have h := hr38 _ (ho39 _ (Option.some.inj h).symm).symm
            obtain rfl := Option.some.inj h
            exact pt_ret hio rfl (.tmp _ _ .nil) rfl rfl
          · have h := cond_f hb50 h
            refine ht_skip ?_
            refine pt_then ?_
            obtain ⟨v6, hv6, h⟩ := bind_some h
            refine ht_seqR hn (El := [_, _, _, _, _, _, _, (22, .v (.int .i64 s25)), (23, .v (.int .i64 v6)), (2, .v (.int .i64 v6))]) (init := [0, 1, 2, 3, 4, 5, 6]) (fin := [0, 2, 3, 4, 9]) (sps := [⟨[1], [], [7], [(.slot 22)]⟩, ⟨[7], [], [8], [(.slot 23)]⟩, ⟨[8], [1], [9], [(.slot 2)]⟩]) (es' := [(_, _), (_, _), (_, _), (_, _), (2, .v (.int .i64 v6))]) (by kernel_rfl) rfl rfl
              ⟨st_plain rfl (op_move _ _ _ _ rfl rfl),
                st_plain rfl (op_bin _ _ _ _ _ rfl rfl (ibind (f := Value.int .i64) (Option.some.inj hv6))),
                st_plain rfl (LOp.drop [_] (op_assign _ _ _ _ rfl rfl)),
                trivial⟩ ?_
            refine pt_inb ?_
            refine pt_pick [0, 4, 1, 2, 3] (by kernel_rfl) (es' := [(_, _), (_, _), (_, _), (_, _), (_, _)]) rfl ?_
            exact hl47 _ (Option.some.inj h).symm
    · have h := cond_f hb42 h
      refine ht_exit ?_
      refine pt_x_then ?_
      refine pt_x_then ?_
      refine pt_x_in ?_
      refine pt_pick [] (by kernel_rfl) (es' := []) rfl ?_
      exact hl37 _ (ho39 _ (Option.some.inj h).symm).symm

set_option maxHeartbeats 1000000 in
theorem ok_canon_Read (lengths : (List Int)) (b : (List Int)) (at_ : Int) (r : (Int × Int × Int)) (h : Sh.canon_Read lengths b at_ = some r) : FnOK Try.prog 13 [.fl .shr 1 (List.map (Value.int .i64) lengths), .fl .shr 1 (List.map (Value.int .u8) b), .v (.int .i64 at_)] (.tup [.v (.int .i64 r.1), .v (.int .i64 r.2.1), .v (.int .i64 r.2.2)]) := by
  unfold Sh.canon_Read at h
  refine fn_ok Try.func13 rfl (Nat.le_of_ble_eq_true rfl) rfl rfl fun g0 hn hio => ?_
  refine ht_seq ?_
  refine ht_seqR hn (El := [_, _, _, (6, .v (.int .i64 0)), (7, .v (.int .i64 0)), (8, .v (.int .i64 0))]) (init := [0, 1, 2]) (fin := [0, 1, 2]) (sps := [⟨[], [], [3], [(.slot 6)]⟩, ⟨[], [], [4], [(.slot 7)]⟩, ⟨[], [], [5], [(.slot 8)]⟩]) (es' := [(_, _), (_, _), (_, _)]) (by kernel_rfl) rfl rfl
    ⟨st_plain rfl (op_assign _ _ _ _ rfl rfl),
      st_plain rfl (op_assign _ _ _ _ rfl rfl),
      st_plain rfl (op_assign _ _ _ _ rfl rfl),
      trivial⟩ ?_
  refine pt_then ?_
  refine ht_seq ?_
  refine ht_seq ?_
  obtain ⟨v1, hv1, h⟩ := bind_some h
  refine ht_seqR hn (El := [_, _, _, (14, .fl .shr 1 (List.map (Value.int .i64) lengths)), (15, .v (.int .i64 v1)), (9, .v (.int .i64 v1))]) (init := [0, 1, 2]) (fin := [0, 1, 2, 5]) (sps := [⟨[0], [], [3], [(.slot 14)]⟩, ⟨[3], [], [4], [(.slot 15)]⟩, ⟨[4], [], [5], [(.slot 9)]⟩]) (es' := [(_, _), (_, _), (_, _), (9, .v (.int .i64 v1))]) (by kernel_rfl) rfl rfl
    ⟨st_plain rfl (op_move _ _ _ _ rfl rfl),
      st_plain rfl (op_call _ _ 15 _ _ rfl Try.call15 rfl (ok_canon_Check lengths _ hv1) rfl rfl),
      st_plain rfl (op_assign _ _ _ _ rfl rfl),
      trivial⟩ ?_
  refine pt_then ?_
  refine ht_seq ?_
  refine ht_seqR hn (El := [_, _, _, _, (16, .v (.int .i64 v1)), (17, .v (.bool (v1 != 0)))]) (init := [0, 1, 2, 3]) (fin := [0, 1, 2, 3, 5]) (sps := [⟨[3], [], [4], [(.slot 16)]⟩, ⟨[4], [], [5], [(.slot 17)]⟩]) (es' := [(_, _), (_, _), (_, _), (_, _), (17, .v (.bool (v1 != 0)))]) (by kernel_rfl) rfl rfl
    ⟨st_plain rfl (op_move _ _ _ _ rfl rfl),
      st_plain rfl (op_bin _ _ _ _ _ rfl rfl rfl),
      trivial⟩ ?_
  refine pt_then ?_
  refine ht_cond _ rfl (fun hb2 => ?_) (fun hb2 => ?_)
  · have h := cond_t hb2 h
    refine ht_seq ?_
    refine ht_seqR hn (El := [_, _, _, _, _, (18, .v (.int .i64 v1)), (6, .v (.int .i64 0)), (7, .v (.int .i64 0)), (8, .v (.int .i64 v1))]) (init := [0, 1, 2, 3, 4]) (fin := [6, 7, 8]) (sps := [⟨[3], [], [5], [(.slot 18)]⟩, ⟨[], [], [6], [(.slot 6)]⟩, ⟨[], [], [7], [(.slot 7)]⟩, ⟨[5], [], [8], [(.slot 8)]⟩]) (es' := [(6, .v (.int .i64 0)), (7, .v (.int .i64 0)), (8, .v (.int .i64 v1))]) (by kernel_rfl) rfl rfl
      ⟨st_plain rfl (op_move _ _ _ _ rfl rfl),
        st_plain rfl (op_assign _ _ _ _ rfl rfl),
        st_plain rfl (op_assign _ _ _ _ rfl rfl),
        st_plain rfl (op_assign _ _ _ _ rfl rfl),
        trivial⟩ ?_
    refine pt_then ?_
    refine ht_ret ?_
    refine pt_r_then ?_
    obtain rfl := Option.some.inj h
    exact pt_ret hio rfl (.tmp _ _ (.tmp _ _ (.tmp _ _ .nil))) rfl rfl
  · have h := cond_f hb2 h
    refine ht_skip ?_
    refine pt_then ?_
    refine ht_seq ?_
    refine ht_seq ?_
    refine ht_joinS h (fun (s4 : Bool) => [(0, .fl .shr 1 (List.map (Value.int .i64) lengths)), (1, .fl .shr 1 (List.map (Value.int .u8) b)), (2, .v (.int .i64 at_)), (27, .v (.bool s4))]) ?_ ?_
    · rintro s4 h
      refine pt_then ?_
      refine ht_cond _ rfl (fun hb8 => ?_) (fun hb8 => ?_)
      · have h := cond_t hb8 h
        refine ht_seq ?_
        refine ht_seqR hn (El := [_, _, _, _, (6, .v (.int .i64 0)), (7, .v (.int .i64 0)), (8, .v (.int .i64 1))]) (init := [0, 1, 2, 3]) (fin := [4, 5, 6]) (sps := [⟨[], [], [4], [(.slot 6)]⟩, ⟨[], [], [5], [(.slot 7)]⟩, ⟨[], [], [6], [(.slot 8)]⟩]) (es' := [(6, .v (.int .i64 0)), (7, .v (.int .i64 0)), (8, .v (.int .i64 1))]) (by kernel_rfl) rfl rfl
          ⟨st_plain rfl (op_assign _ _ _ _ rfl rfl),
            st_plain rfl (op_assign _ _ _ _ rfl rfl),
            st_plain rfl (op_assign _ _ _ _ rfl rfl),
            trivial⟩ ?_
        refine pt_then ?_
        refine ht_ret ?_
        refine pt_r_then ?_
        obtain rfl := Option.some.inj h
        exact pt_ret hio rfl (.tmp _ _ (.tmp _ _ (.tmp _ _ .nil))) rfl rfl
      · have h := cond_f hb8 h
        refine ht_skip ?_
        refine pt_then ?_
        refine ht_seq ?_
        obtain ⟨v9, hv9, h⟩ := bind_some h
        obtain ⟨v10, hv10, h⟩ := bind_some h
        obtain ⟨v11, hv11, h⟩ := bind_some h
        refine ht_seqR hn (El := [_, _, _, _, (28, .fl .shr 1 (List.map (Value.int .i64) lengths)), (29, .v (.agg (List.map (Value.int .i64) v9).toArray)), (10, .arr 47 (List.map (Value.int .i64) ((List.replicate 16 (0 : Int))))), (10, .arr 47 (List.map (Value.int .i64) v9))]) (init := [0, 1, 2, 3]) (fin := [0, 1, 2, 7]) (sps := [⟨[0], [], [4], [(.slot 28)]⟩, ⟨[4], [], [5], [(.slot 29)]⟩, ⟨[], [], [6], [(.slot 10)]⟩, ⟨[5], [6], [7], []⟩]) (es' := [(_, _), (_, _), (_, _), (10, .arr 47 (List.map (Value.int .i64) v9))]) (by kernel_rfl) rfl rfl
          ⟨st_plain rfl (op_move _ _ _ _ rfl rfl),
            st_plain rfl (op_call _ _ 25 _ _ rfl Try.call25 rfl (ok_canon_count lengths _ hv9) rfl rfl),
            st_plain rfl (op_alloc_arr _ za47),
            st_plain rfl (op_storeA_arr _ _ _ _ (sz47.trans (congrArg some (ln_len hv11))) rfl rfl (ln_ones (fun _ => rfl) _) ((ln_len (f := Value.int .i64) hv10).symm.trans (ln_len (f := Value.int .i64) hv11))),
            trivial⟩ ?_
        refine pt_then ?_
        refine ht_seq ?_
        obtain ⟨v12, hv12, h⟩ := bind_some h
        obtain ⟨v13, hv13, h⟩ := bind_some h
        obtain ⟨v14, hv14, h⟩ := bind_some h
        obtain ⟨v15, hv15, h⟩ := bind_some h
        refine ht_seqR hn (El := [_, _, _, _, (30, .v (.agg (List.map (Value.int .i64) v9).toArray)), (31, .v (.agg (List.map (Value.int .i64) v13).toArray)), (11, .arr 47 (List.map (Value.int .i64) ((List.replicate 16 (0 : Int))))), (11, .arr 47 (List.map (Value.int .i64) v13))]) (init := [0, 1, 2, 3]) (fin := [0, 1, 2, 3, 7]) (sps := [⟨[3], [], [4], [(.slot 30)]⟩, ⟨[4], [], [5], [(.slot 31)]⟩, ⟨[], [], [6], [(.slot 11)]⟩, ⟨[5], [6], [7], []⟩]) (es' := [(_, _), (_, _), (_, _), (_, _), (11, .arr 47 (List.map (Value.int .i64) v13))]) (by kernel_rfl) rfl rfl
          ⟨st_plain rfl (op_loadA_arr _ _ _ _ Try.underlying47 rfl (sz47.trans (congrArg some (ln_len hv12))) rfl rfl),
            st_plain rfl (op_call _ _ 24 _ _ rfl Try.call24 rfl (ok_canon_firsts v9 _ hv13) rfl rfl),
            st_plain rfl (op_alloc_arr _ za47),
            st_plain rfl (op_storeA_arr _ _ _ _ (sz47.trans (congrArg some (ln_len hv15))) rfl rfl (ln_ones (fun _ => rfl) _) ((ln_len (f := Value.int .i64) hv14).symm.trans (ln_len (f := Value.int .i64) hv15))),
            trivial⟩ ?_
        refine pt_then ?_
        refine ht_seq ?_
        refine ht_seqR hn (El := [_, _, _, _, _, (12, .v (.int .i64 0))]) (init := [0, 1, 2, 3, 4]) (fin := [0, 1, 2, 3, 4, 5]) (sps := [⟨[], [], [5], [(.slot 12)]⟩]) (es' := [(_, _), (_, _), (_, _), (_, _), (_, _), (12, .v (.int .i64 0))]) (by kernel_rfl) rfl rfl
          ⟨st_plain rfl (op_assign _ _ _ _ rfl rfl),
            trivial⟩ ?_
        refine pt_then ?_
        refine ht_seq ?_
        refine ht_seq ?_
        refine ht_seqR hn (El := [_, _, _, _, _, _, (13, .v (.int .i64 1))]) (init := [0, 1, 2, 3, 4, 5]) (fin := [0, 1, 2, 3, 4, 5, 6]) (sps := [⟨[], [], [6], [(.slot 13)]⟩]) (es' := [(_, _), (_, _), (_, _), (_, _), (_, _), (_, _), (13, .v (.int .i64 1))]) (by kernel_rfl) rfl rfl
          ⟨st_plain rfl (op_assign _ _ _ _ rfl rfl),
            trivial⟩ ?_
        refine pt_then ?_
        refine ht_loopS h (fun ((s52, s53, s54) : Int × Int × Int) => [(0, .fl .shr 1 (List.map (Value.int .i64) lengths)), (1, .fl .shr 1 (List.map (Value.int .u8) b)), (2, .v (.int .i64 s52)), (10, .arr 47 (List.map (Value.int .i64) v9)), (11, .arr 47 (List.map (Value.int .i64) v13)), (12, .v (.int .i64 s53)), (13, .v (.int .i64 s54))]) (fun (() : Unit) => []) ?_ ?_
        · rintro ⟨⟩ h
          refine pt_then ?_
          refine ht_seq ?_
          refine ht_seqR hn (El := [(6, .v (.int .i64 0)), (7, .v (.int .i64 0)), (8, .v (.int .i64 3))]) (init := []) (fin := [0, 1, 2]) (sps := [⟨[], [], [0], [(.slot 6)]⟩, ⟨[], [], [1], [(.slot 7)]⟩, ⟨[], [], [2], [(.slot 8)]⟩]) (es' := [(6, .v (.int .i64 0)), (7, .v (.int .i64 0)), (8, .v (.int .i64 3))]) (by kernel_rfl) rfl rfl
            ⟨st_plain rfl (op_assign _ _ _ _ rfl rfl),
              st_plain rfl (op_assign _ _ _ _ rfl rfl),
              st_plain rfl (op_assign _ _ _ _ rfl rfl),
              trivial⟩ ?_
          refine pt_then ?_
          refine ht_ret ?_
          obtain rfl := Option.some.inj h
          exact pt_ret hio rfl (.tmp _ _ (.tmp _ _ (.tmp _ _ .nil))) rfl rfl
        · rintro u61 hl62 hr63 ⟨s52, s53, s54⟩ rr66 h ho64
          refine ht_seq ?_
          refine ht_seq ?_
          refine ht_joinS h (fun (s67 : Bool) => [(0, .fl .shr 1 (List.map (Value.int .i64) lengths)), (1, .fl .shr 1 (List.map (Value.int .u8) b)), (2, .v (.int .i64 s52)), (10, .arr 47 (List.map (Value.int .i64) v9)), (11, .arr 47 (List.map (Value.int .i64) v13)), (12, .v (.int .i64 s53)), (13, .v (.int .i64 s54)), (40, .v (.bool s67))]) ?_ ?_
          · rintro s67 h
            refine pt_then ?_
            refine ht_cond _ rfl (fun hb71 => ?_) (fun hb71 => ?_)
            · have h := cond_t hb71 h
              refine ht_skip ?_
              refine pt_then ?_
              refine ht_seq ?_
              refine ht_block ?_
              refine ht_seq ?_
              obtain ⟨v22, hv22, h⟩ := bind_some h
              obtain ⟨v23, hv23, h⟩ := bind_some h
              obtain ⟨v24, hv24, h⟩ := bind_some h
              obtain ⟨v25, hv25, h⟩ := bind_some h
              obtain ⟨v26, hv26, h⟩ := bind_some h
              obtain ⟨v27, hv27, h⟩ := bind_some h
              obtain ⟨v28, hv28, h⟩ := bind_some h
              obtain ⟨v29, hv29, h⟩ := bind_some h
              obtain ⟨v30, hv30, h⟩ := bind_some h
              refine ht_seqR hn (El := (_ :: _ :: _ :: _ :: _ :: _ :: _ :: _ :: (43, .v (.int .i64 s53)) :: (44, .v (.int .i64 v22)) :: (45, .fl .shr 1 (List.map (Value.int .u8) b)) :: (46, .v (.int .i64 s52)) :: (47, .v (.int .i64 v23)) :: (48, .eref (.slot 45) (v24 * 1)) :: (49, .v (.int .u8 v25)) :: (50, .v (.int .i64 s52)) :: (51, .v (.int .i64 v26)) :: (52, .v (.int .u8 v27)) :: (53, .v (.int .u8 v28)) :: (54, .v (.int .i64 v29)) :: (55, .v (.int .i64 v30)) :: (12, .v (.int .i64 v30)) :: [])) (init := [0, 1, 2, 3, 4, 5, 6, 7]) (fin := [0, 1, 2, 3, 4, 6, 21]) (sps := [⟨[5], [], [8], [(.slot 43)]⟩, ⟨[8], [], [9], [(.slot 44)]⟩, ⟨[1], [], [10], [(.slot 45)]⟩, ⟨[2], [], [11], [(.slot 46)]⟩, ⟨[11], [], [12], [(.slot 47)]⟩, ⟨[10, 12], [], [13], [(.slot 48)]⟩, ⟨[13, 10], [], [14], [(.slot 49)]⟩, ⟨[2], [], [15], [(.slot 50)]⟩, ⟨[15], [], [16], [(.slot 51)]⟩, ⟨[14, 16], [], [17], [(.slot 52)]⟩, ⟨[17], [], [18], [(.slot 53)]⟩, ⟨[18], [], [19], [(.slot 54)]⟩, ⟨[9, 19], [], [20], [(.slot 55)]⟩, ⟨[20], [5], [21], [(.slot 12)]⟩]) (es' := [(_, _), (_, _), (_, _), (_, _), (_, _), (_, _), (12, .v (.int .i64 v30))]) (by kernel_rfl) rfl rfl
                ⟨st_plain rfl (op_move _ _ _ _ rfl rfl),
                  st_plain rfl (op_bin _ _ _ _ _ rfl rfl (shl_ok hv22)),
                  st_plain rfl (op_move _ _ _ _ rfl rfl),
                  st_plain rfl (op_move _ _ _ _ rfl rfl),
                  st_plain rfl (op_bin _ _ _ _ _ rfl rfl (quo_ok hv23)),
                  st_plain rfl (op_ix _ _ _ _ _ _ _ _ Try.underlying23 sz5 (by decide) rfl rfl rfl (ix_ok hv24).1 (map_lt (ix_ok hv24).2) rfl),
                  st_plain rfl (op_load_e _ _ _ _ _ _ Try.underlying5 rfl rfl rfl (map_get hv25)),
                  st_plain rfl (op_move _ _ _ _ rfl rfl),
                  st_plain rfl (op_bin _ _ _ _ _ rfl rfl (rem_ok hv26)),
                  st_plain rfl (op_bin _ _ _ _ _ rfl rfl (shr_ok hv27)),
                  st_plain rfl (op_bin _ _ _ _ _ rfl rfl (ibind (f := Value.int .u8) (Option.some.inj hv28))),
                  st_plain rfl ((Option.some.inj hv29) ▸ op_conv _ _ _ Try.underlying5 Try.underlying3 rfl),
                  st_plain rfl (op_bin _ _ _ _ _ rfl rfl (ibind (f := Value.int .i64) (Option.some.inj hv30))),
                  st_plain rfl (LOp.drop [_] (op_assign _ _ _ _ rfl rfl)),
                  trivial⟩ ?_
              refine pt_then ?_
              refine ht_seq ?_
              obtain ⟨v31, hv31, h⟩ := bind_some h
              refine ht_seqR hn (El := [_, _, _, _, _, _, _, (56, .v (.int .i64 s52)), (57, .v (.int .i64 v31)), (2, .v (.int .i64 v31))]) (init := [0, 1, 2, 3, 4, 5, 6]) (fin := [0, 1, 3, 4, 5, 6, 9]) (sps := [⟨[2], [], [7], [(.slot 56)]⟩, ⟨[7], [], [8], [(.slot 57)]⟩, ⟨[8], [2], [9], [(.slot 2)]⟩]) (es' := [(_, _), (_, _), (_, _), (_, _), (_, _), (_, _), (2, .v (.int .i64 v31))]) (by kernel_rfl) rfl rfl
                ⟨st_plain rfl (op_move _ _ _ _ rfl rfl),
                  st_plain rfl (op_bin _ _ _ _ _ rfl rfl (ibind (f := Value.int .i64) (Option.some.inj hv31))),
                  st_plain rfl (LOp.drop [_] (op_assign _ _ _ _ rfl rfl)),
                  trivial⟩ ?_
              refine pt_then ?_
              refine ht_seq ?_
              obtain ⟨v32, hv32, h⟩ := bind_some h
              obtain ⟨v33, hv33, h⟩ := bind_some h
              obtain ⟨v34, hv34, h⟩ := bind_some h
              obtain ⟨v35, hv35, h⟩ := bind_some h
              obtain ⟨v36, hv36, h⟩ := bind_some h
              refine ht_anyR (by kernel_rfl) hn (El := (_ :: _ :: _ :: _ :: _ :: _ :: _ :: (58, .v (.int .i64 v30)) :: (59, .v (.int .i64 s54)) :: (60, .ptr 11 v32) :: (61, .v (.int .i64 v33)) :: (62, .v (.int .i64 s54)) :: (63, .ptr 10 v34) :: (64, .v (.int .i64 v35)) :: (65, .v (.int .i64 v36)) :: (66, .v (.bool ((decide (v30 < v36))))) :: [])) (init := [0, 1, 2, 3, 4, 5, 6]) (fin := [0, 1, 2, 3, 4, 5, 6, 15]) (sps := [⟨[5], [], [7], [(.slot 58)]⟩, ⟨[4], [], [8], [(.slot 59)]⟩, ⟨[3, 8], [], [9], [(.slot 60)]⟩, ⟨[9, 3], [], [10], [(.slot 61)]⟩, ⟨[4], [], [11], [(.slot 62)]⟩, ⟨[2, 11], [], [12], [(.slot 63)]⟩, ⟨[12, 2], [], [13], [(.slot 64)]⟩, ⟨[10, 13], [], [14], [(.slot 65)]⟩, ⟨[7, 14], [], [15], [(.slot 66)]⟩]) (es' := [(_, _), (_, _), (_, _), (_, _), (_, _), (_, _), (_, _), (66, .v (.bool ((decide (v30 < v36)))))]) (by kernel_rfl) rfl rfl
                ⟨st_plain rfl (op_move _ _ _ _ rfl rfl),
                  st_plain rfl (op_move _ _ _ _ rfl rfl),
                  st_plain rfl (op_ix_arr _ _ _ _ 16 11 _ Try.underlying47 sz3 rfl rfl (ix_ok hv32).1 (ix_ok hv32).2 (by decide)),
                  st_plain rfl (op_load_arr _ _ _ _ _ _ Try.underlying3 rfl rfl rfl (map_get1 hv33)),
                  st_plain rfl (op_move _ _ _ _ rfl rfl),
                  st_plain rfl (op_ix_arr _ _ _ _ 16 10 _ Try.underlying47 sz3 rfl rfl (ix_ok hv34).1 (ix_ok hv34).2 (by decide)),
                  st_plain rfl (op_load_arr _ _ _ _ _ _ Try.underlying3 rfl rfl rfl (map_get1 hv35)),
                  st_plain rfl (op_bin _ _ _ _ _ rfl rfl (ibind (f := Value.int .i64) (Option.some.inj hv36))),
                  st_plain rfl (op_bin _ _ _ _ _ rfl rfl rfl),
                  trivial⟩ ?_
              refine pt_then ?_
              refine ht_cond _ rfl (fun hb72 => ?_) (fun hb72 => ?_)
              · have h := cond_t hb72 h
                refine ht_seq ?_
                obtain ⟨v38, hv38, h⟩ := bind_some h
                obtain ⟨v39, hv39, h⟩ := bind_some h
                obtain ⟨v40, hv40, h⟩ := bind_some h
                obtain ⟨v41, hv41, h⟩ := bind_some h
                refine ht_seqR hn (El := (_ :: _ :: _ :: _ :: _ :: _ :: _ :: _ :: (67, .fl .shr 1 (List.map (Value.int .i64) lengths)) :: (68, .v (.int .i64 s54)) :: (69, .v (.int .i64 v30)) :: (70, .v (.int .i64 s54)) :: (71, .ptr 11 v38) :: (72, .v (.int .i64 v39)) :: (73, .v (.int .i64 v40)) :: (74, .v (.int .i64 v41)) :: (75, .v (.int .i64 v31)) :: (6, .v (.int .i64 v41)) :: (7, .v (.int .i64 v31)) :: (8, .v (.int .i64 0)) :: [])) (init := [0, 1, 2, 3, 4, 5, 6, 7]) (fin := [17, 18, 19]) (sps := [⟨[0], [], [8], [(.slot 67)]⟩, ⟨[4], [], [9], [(.slot 68)]⟩, ⟨[5], [], [10], [(.slot 69)]⟩, ⟨[4], [], [11], [(.slot 70)]⟩, ⟨[3, 11], [], [12], [(.slot 71)]⟩, ⟨[12, 3], [], [13], [(.slot 72)]⟩, ⟨[10, 13], [], [14], [(.slot 73)]⟩, ⟨[8, 9, 14], [], [15], [(.slot 74)]⟩, ⟨[6], [], [16], [(.slot 75)]⟩, ⟨[15], [], [17], [(.slot 6)]⟩, ⟨[16], [], [18], [(.slot 7)]⟩, ⟨[], [], [19], [(.slot 8)]⟩]) (es' := [(6, .v (.int .i64 v41)), (7, .v (.int .i64 v31)), (8, .v (.int .i64 0))]) (by kernel_rfl) rfl rfl
                  ⟨st_plain rfl (op_move _ _ _ _ rfl rfl),
                    st_plain rfl (op_move _ _ _ _ rfl rfl),
                    st_plain rfl (op_move _ _ _ _ rfl rfl),
                    st_plain rfl (op_move _ _ _ _ rfl rfl),
                    st_plain rfl (op_ix_arr _ _ _ _ 16 11 _ Try.underlying47 sz3 rfl rfl (ix_ok hv38).1 (ix_ok hv38).2 (by decide)),
                    st_plain rfl (op_load_arr _ _ _ _ _ _ Try.underlying3 rfl rfl rfl (map_get1 hv39)),
                    st_plain rfl (op_bin _ _ _ _ _ rfl rfl (ibind (f := Value.int .i64) (Option.some.inj hv40))),
                    st_plain rfl (op_call _ _ 27 _ _ rfl Try.call27 rfl (ok_canon_nth lengths s54 v40 _ hv41) rfl rfl),
                    st_plain rfl (op_move _ _ _ _ rfl rfl),
                    st_plain rfl (op_assign _ _ _ _ rfl rfl),
                    st_plain rfl (op_assign _ _ _ _ rfl rfl),
                    st_plain rfl (op_assign _ _ _ _ rfl rfl),
                    trivial⟩ ?_
                refine pt_then ?_
                refine ht_ret ?_
                refine pt_r_in ?_
                refine pt_r_then ?_
                refine pt_r_then ?_
                refine pt_r_in ?_
                refine pt_r_then ?_
                have h := hr63 _ (ho64 _ (Option.some.inj h).symm).symm
                obtain rfl := Option.some.inj h
                exact pt_ret hio rfl (.tmp _ _ (.tmp _ _ (.tmp _ _ .nil))) rfl rfl
              · have h := cond_f hb72 h
                refine ht_skip ?_
                refine pt_inb ?_
                refine pt_then ?_
                obtain ⟨v42, hv42, h⟩ := bind_some h
                refine ht_seqR hn (El := [_, _, _, _, _, _, _, _, (41, .v (.int .i64 s54)), (42, .v (.int .i64 v42)), (13, .v (.int .i64 v42))]) (init := [0, 1, 2, 3, 4, 5, 6, 7]) (fin := [0, 1, 2, 3, 5, 6, 10]) (sps := [⟨[4], [], [8], [(.slot 41)]⟩, ⟨[8], [], [9], [(.slot 42)]⟩, ⟨[9], [4], [10], [(.slot 13)]⟩]) (es' := [(_, _), (_, _), (_, _), (_, _), (_, _), (_, _), (13, .v (.int .i64 v42))]) (by kernel_rfl) rfl rfl
                  ⟨st_plain rfl (op_move _ _ _ _ rfl rfl),
                    st_plain rfl (op_bin _ _ _ _ _ rfl rfl (ibind (f := Value.int .i64) (Option.some.inj hv42))),
                    st_plain rfl (LOp.drop [_] (op_assign _ _ _ _ rfl rfl)),
                    trivial⟩ ?_
                refine pt_pick [0, 1, 5, 2, 3, 4, 6] (by kernel_rfl) (es' := [(_, _), (_, _), (_, _), (_, _), (_, _), (_, _), (_, _)]) rfl ?_
                exact pt_next _ (Option.some.inj h).symm rfl
            · have h := cond_f hb71 h
              refine ht_exit ?_
              refine pt_x_then ?_
              refine pt_x_then ?_
              refine pt_x_in ?_
              refine pt_pick [] (by kernel_rfl) (es' := []) rfl ?_
              exact hl62 _ (ho64 _ (Option.some.inj h).symm).symm
          · intro u68 h hl69 hr70
            refine cond_some h (fun hg10_2 h => ?_) (fun hg10_2 h => ?_)
            · obtain ⟨v16, hv16, h⟩ := bind_some h
              refine ht_seqR hn (El := (_ :: _ :: _ :: _ :: _ :: _ :: _ :: (32, .v (.int .i64 s54)) :: (33, .v (.bool ((decide (s54 ≤ 15))))) :: (34, .v (.bool true)) :: (35, .v (.int .i64 s52)) :: (36, .fl .shr 1 (List.map (Value.int .u8) b)) :: (37, .v (.int .i64 (b.length : Int))) :: (38, .v (.int .i64 v16)) :: (39, .v (.bool ((decide (s52 < v16))))) :: (40, .v (.bool ((decide (s52 < v16))))) :: [])) (init := [0, 1, 2, 3, 4, 5, 6]) (fin := [0, 1, 2, 3, 4, 5, 6, 15]) (sps := [⟨[6], [], [7], [(.slot 32)]⟩, ⟨[7], [], [8], [(.slot 33)]⟩, ⟨[8], [], [9], [(.slot 34)]⟩, ⟨[9, 2], [], [10], [(.slot 35)]⟩, ⟨[9, 1], [], [11], [(.slot 36)]⟩, ⟨[9, 11], [], [12], [(.slot 37)]⟩, ⟨[9, 12], [], [13], [(.slot 38)]⟩, ⟨[9, 10, 13], [], [14], [(.slot 39)]⟩, ⟨[9, 14], [], [15], [(.slot 40)]⟩]) (es' := [(_, _), (_, _), (_, _), (_, _), (_, _), (_, _), (_, _), (40, .v (.bool ((decide (s52 < v16)))))]) (by kernel_rfl) rfl rfl
                ⟨st_plain rfl (op_move _ _ _ _ rfl rfl),
                  st_plain rfl (op_bin _ _ _ _ _ rfl rfl rfl),
                  st_plain rfl (op_move _ _ _ _ (congrArg (fun b => AV.v (Value.bool b)) hg10_2) rfl),
                  st_run 2 34 true rfl rfl rfl (List.Mem.head _) (op_move _ _ _ _ rfl rfl),
                  st_run 2 34 true rfl rfl rfl (List.Mem.head _) (op_move _ _ _ _ rfl rfl),
                  st_run 2 34 true rfl rfl rfl (List.Mem.head _) (op_len_fl _ _ _ Try.underlying23 rfl (by decide) (map_len _)),
                  st_run 2 34 true rfl rfl rfl (List.Mem.head _) (op_bin _ _ _ _ _ rfl rfl (ibind (f := Value.int .i64) (Option.some.inj hv16))),
                  st_run 2 34 true rfl rfl rfl (List.Mem.head _) (op_bin _ _ _ _ _ rfl rfl rfl),
                  st_plain rfl (op_pick _ _ true _ rfl rfl),
                  trivial⟩ ?_
              exact hl69 _ (Option.some.inj h).symm
            · refine ht_seqR hn (El := (_ :: _ :: _ :: _ :: _ :: _ :: _ :: (32, .v (.int .i64 s54)) :: (33, .v (.bool ((decide (s54 ≤ 15))))) :: (34, .v (.bool false)) :: (35, .v undef) :: (36, .v undef) :: (37, .v undef) :: (38, .v undef) :: (39, .v undef) :: (40, .v (.bool false)) :: [])) (init := [0, 1, 2, 3, 4, 5, 6]) (fin := [0, 1, 2, 3, 4, 5, 6, 15]) (sps := [⟨[6], [], [7], [(.slot 32)]⟩, ⟨[7], [], [8], [(.slot 33)]⟩, ⟨[8], [], [9], [(.slot 34)]⟩, ⟨[9], [], [10], [(.slot 35)]⟩, ⟨[9], [], [11], [(.slot 36)]⟩, ⟨[9], [], [12], [(.slot 37)]⟩, ⟨[9], [], [13], [(.slot 38)]⟩, ⟨[9], [], [14], [(.slot 39)]⟩, ⟨[9], [], [15], [(.slot 40)]⟩]) (es' := [(_, _), (_, _), (_, _), (_, _), (_, _), (_, _), (_, _), (40, .v (.bool false))]) (by kernel_rfl) rfl rfl
                ⟨st_plain rfl (op_move _ _ _ _ rfl rfl),
                  st_plain rfl (op_bin _ _ _ _ _ rfl rfl rfl),
                  st_plain rfl (op_move _ _ _ _ (congrArg (fun b => AV.v (Value.bool b)) hg10_2) rfl),
                  st_skip 2 34 _ true rfl rfl rfl rfl (List.Mem.head _),
                  st_skip 2 34 _ true rfl rfl rfl rfl (List.Mem.head _),
                  st_skip 2 34 _ true rfl rfl rfl rfl (List.Mem.head _),
                  st_skip 2 34 _ true rfl rfl rfl rfl (List.Mem.head _),
                  st_skip 2 34 _ true rfl rfl rfl rfl (List.Mem.head _),
                  st_plain rfl (op_pick _ _ false _ rfl rfl),
                  trivial⟩ ?_
              exact hl69 _ (Option.some.inj h).symm
    · intro u5 h hl6 hr7
      refine cond_some h (fun hg4_2 h => ?_) (fun hg4_2 h => ?_)
      · refine ht_seqR hn (El := [_, _, _, _, _, (19, .v (.int .i64 at_)), (20, .v (.bool ((decide (at_ < 0))))), (21, .v (.bool true)), (22, .v undef), (23, .v undef), (24, .v undef), (25, .v undef), (26, .v undef), (27, .v (.bool true))]) (init := [0, 1, 2, 3, 4]) (fin := [0, 1, 2, 13]) (sps := [⟨[2], [], [5], [(.slot 19)]⟩, ⟨[5], [], [6], [(.slot 20)]⟩, ⟨[6], [], [7], [(.slot 21)]⟩, ⟨[7], [], [8], [(.slot 22)]⟩, ⟨[7], [], [9], [(.slot 23)]⟩, ⟨[7], [], [10], [(.slot 24)]⟩, ⟨[7], [], [11], [(.slot 25)]⟩, ⟨[7], [], [12], [(.slot 26)]⟩, ⟨[7], [], [13], [(.slot 27)]⟩]) (es' := [(_, _), (_, _), (_, _), (27, .v (.bool true))]) (by kernel_rfl) rfl rfl
          ⟨st_plain rfl (op_move _ _ _ _ rfl rfl),
            st_plain rfl (op_bin _ _ _ _ _ rfl rfl rfl),
            st_plain rfl (op_move _ _ _ _ (congrArg (fun b => AV.v (Value.bool b)) hg4_2) rfl),
            st_skip 2 21 _ false rfl rfl rfl rfl (List.Mem.head _),
            st_skip 2 21 _ false rfl rfl rfl rfl (List.Mem.head _),
            st_skip 2 21 _ false rfl rfl rfl rfl (List.Mem.head _),
            st_skip 2 21 _ false rfl rfl rfl rfl (List.Mem.head _),
            st_skip 2 21 _ false rfl rfl rfl rfl (List.Mem.head _),
            st_plain rfl (op_pick _ _ true _ rfl rfl),
            trivial⟩ ?_
        exact hl6 _ (Option.some.inj h).symm
      · obtain ⟨v3, hv3, h⟩ := bind_some h
        refine ht_seqR hn (El := [_, _, _, _, _, (19, .v (.int .i64 at_)), (20, .v (.bool ((decide (at_ < 0))))), (21, .v (.bool false)), (22, .v (.int .i64 at_)), (23, .fl .shr 1 (List.map (Value.int .u8) b)), (24, .v (.int .i64 (b.length : Int))), (25, .v (.int .i64 v3)), (26, .v (.bool ((decide (v3 < at_))))), (27, .v (.bool ((decide (v3 < at_)))))]) (init := [0, 1, 2, 3, 4]) (fin := [0, 1, 2, 13]) (sps := [⟨[2], [], [5], [(.slot 19)]⟩, ⟨[5], [], [6], [(.slot 20)]⟩, ⟨[6], [], [7], [(.slot 21)]⟩, ⟨[7, 2], [], [8], [(.slot 22)]⟩, ⟨[7, 1], [], [9], [(.slot 23)]⟩, ⟨[7, 9], [], [10], [(.slot 24)]⟩, ⟨[7, 10], [], [11], [(.slot 25)]⟩, ⟨[7, 8, 11], [], [12], [(.slot 26)]⟩, ⟨[7, 12], [], [13], [(.slot 27)]⟩]) (es' := [(_, _), (_, _), (_, _), (27, .v (.bool ((decide (v3 < at_)))))]) (by kernel_rfl) rfl rfl
          ⟨st_plain rfl (op_move _ _ _ _ rfl rfl),
            st_plain rfl (op_bin _ _ _ _ _ rfl rfl rfl),
            st_plain rfl (op_move _ _ _ _ (congrArg (fun b => AV.v (Value.bool b)) hg4_2) rfl),
            st_run 2 21 false rfl rfl rfl (List.Mem.head _) (op_move _ _ _ _ rfl rfl),
            st_run 2 21 false rfl rfl rfl (List.Mem.head _) (op_move _ _ _ _ rfl rfl),
            st_run 2 21 false rfl rfl rfl (List.Mem.head _) (op_len_fl _ _ _ Try.underlying23 rfl (by decide) (map_len _)),
            st_run 2 21 false rfl rfl rfl (List.Mem.head _) (op_bin _ _ _ _ _ rfl rfl (ibind (f := Value.int .i64) (Option.some.inj hv3))),
            st_run 2 21 false rfl rfl rfl (List.Mem.head _) (op_bin _ _ _ _ _ rfl rfl rfl),
            st_plain rfl (op_pick _ _ false _ rfl rfl),
            trivial⟩ ?_
        exact hl6 _ (Option.some.inj h).symm

set_option maxHeartbeats 1000000 in
theorem ok_wherryref01_bit (b : (List Int)) (i : Int) (r : Int) (h : Sh.wherryref01_bit b i = some r) : FnOK Try.prog 38 [.fl .shr 1 (List.map (Value.int .u8) b), .v (.int .i64 i)] (.v (.int .i64 r)) := by
  unfold Sh.wherryref01_bit at h
  refine fn_ok Try.func38 rfl (Nat.le_of_ble_eq_true rfl) rfl rfl fun g0 hn hio => ?_
  refine ht_seq ?_
  refine ht_seqR hn (El := [_, _, (4, .v (.int .i64 0))]) (init := [0, 1]) (fin := [0, 1]) (sps := [⟨[], [], [2], [(.slot 4)]⟩]) (es' := [(_, _), (_, _)]) (by kernel_rfl) rfl rfl
    ⟨st_plain rfl (op_assign _ _ _ _ rfl rfl),
      trivial⟩ ?_
  refine pt_then ?_
  refine ht_seq ?_
  obtain ⟨v1, hv1, h⟩ := bind_some h
  obtain ⟨v2, hv2, h⟩ := bind_some h
  obtain ⟨v3, hv3, h⟩ := bind_some h
  obtain ⟨v4, hv4, h⟩ := bind_some h
  obtain ⟨v5, hv5, h⟩ := bind_some h
  obtain ⟨v6, hv6, h⟩ := bind_some h
  obtain ⟨v7, hv7, h⟩ := bind_some h
  obtain ⟨v8, hv8, h⟩ := bind_some h
  refine ht_seqR hn (El := [_, _, (5, .fl .shr 1 (List.map (Value.int .u8) b)), (6, .v (.int .i64 i)), (7, .v (.int .i64 v1)), (8, .eref (.slot 5) (v2 * 1)), (9, .v (.int .u8 v3)), (10, .v (.int .i64 i)), (11, .v (.int .i64 v4)), (12, .v (.int .u64 v5)), (13, .v (.int .u8 v6)), (14, .v (.int .i64 v7)), (15, .v (.int .i64 v8)), (4, .v (.int .i64 v8))]) (init := [0, 1]) (fin := [13]) (sps := [⟨[0], [], [2], [(.slot 5)]⟩, ⟨[1], [], [3], [(.slot 6)]⟩, ⟨[3], [], [4], [(.slot 7)]⟩, ⟨[2, 4], [], [5], [(.slot 8)]⟩, ⟨[5, 2], [], [6], [(.slot 9)]⟩, ⟨[1], [], [7], [(.slot 10)]⟩, ⟨[7], [], [8], [(.slot 11)]⟩, ⟨[8], [], [9], [(.slot 12)]⟩, ⟨[6, 9], [], [10], [(.slot 13)]⟩, ⟨[10], [], [11], [(.slot 14)]⟩, ⟨[11], [], [12], [(.slot 15)]⟩, ⟨[12], [], [13], [(.slot 4)]⟩]) (es' := [(4, .v (.int .i64 v8))]) (by kernel_rfl) rfl rfl
    ⟨st_plain rfl (op_move _ _ _ _ rfl rfl),
      st_plain rfl (op_move _ _ _ _ rfl rfl),
      st_plain rfl (op_bin _ _ _ _ _ rfl rfl (quo_ok hv1)),
      st_plain rfl (op_ix _ _ _ _ _ _ _ _ Try.underlying23 sz5 (by decide) rfl rfl rfl (ix_ok hv2).1 (map_lt (ix_ok hv2).2) rfl),
      st_plain rfl (op_load_e _ _ _ _ _ _ Try.underlying5 rfl rfl rfl (map_get hv3)),
      st_plain rfl (op_move _ _ _ _ rfl rfl),
      st_plain rfl (op_bin _ _ _ _ _ rfl rfl (rem_ok hv4)),
      st_plain rfl ((Option.some.inj hv5) ▸ op_conv _ _ _ Try.underlying3 Try.underlying37 rfl),
      st_plain rfl (op_bin _ _ _ _ _ rfl rfl (shr_ok hv6)),
      st_plain rfl ((Option.some.inj hv7) ▸ op_conv _ _ _ Try.underlying5 Try.underlying3 rfl),
      st_plain rfl (op_bin _ _ _ _ _ rfl rfl (ibind (f := Value.int .i64) (Option.some.inj hv8))),
      st_plain rfl (op_assign _ _ _ _ rfl rfl),
      trivial⟩ ?_
  refine pt_then ?_
  refine ht_ret ?_
  obtain rfl := Option.some.inj h
  exact pt_ret hio rfl (.tmp _ _ .nil) rfl rfl

set_option maxHeartbeats 1000000 in
theorem ok_wherryref01_read (l : (List Int)) (c : (List Int)) (b : (List Int)) (at_ : Int) (r : (Int × Int)) (h : Sh.wherryref01_read l c b at_ = some r) : FnOK Try.prog 29 [.fl .shr 1 (List.map (Value.int .i64) l), .fl .shr 1 (List.map (Value.int .i64) c), .fl .shr 1 (List.map (Value.int .u8) b), .v (.int .i64 at_)] (.tup [.v (.int .i64 r.1), .v (.int .i64 r.2)]) := by
  unfold Sh.wherryref01_read at h
  refine fn_ok Try.func29 rfl (Nat.le_of_ble_eq_true rfl) rfl rfl fun g0 hn hio => ?_
  refine ht_seq ?_
  refine ht_seqR hn (El := [_, _, _, _, (8, .v (.int .i64 0)), (9, .v (.int .i64 0))]) (init := [0, 1, 2, 3]) (fin := [0, 1, 2, 3]) (sps := [⟨[], [], [4], [(.slot 8)]⟩, ⟨[], [], [5], [(.slot 9)]⟩]) (es' := [(_, _), (_, _), (_, _), (_, _)]) (by kernel_rfl) rfl rfl
    ⟨st_plain rfl (op_assign _ _ _ _ rfl rfl),
      st_plain rfl (op_assign _ _ _ _ rfl rfl),
      trivial⟩ ?_
  refine pt_then ?_
  refine ht_seq ?_
  refine ht_seqR hn (El := [_, _, _, _, (10, .v (.int .i64 0))]) (init := [0, 1, 2, 3]) (fin := [0, 1, 2, 3, 4]) (sps := [⟨[], [], [4], [(.slot 10)]⟩]) (es' := [(_, _), (_, _), (_, _), (_, _), (10, .v (.int .i64 0))]) (by kernel_rfl) rfl rfl
    ⟨st_plain rfl (op_assign _ _ _ _ rfl rfl),
      trivial⟩ ?_
  refine pt_then ?_
  refine ht_seq ?_
  refine ht_seq ?_
  refine ht_seqR hn (El := [_, _, _, _, _, (11, .v (.int .i64 1))]) (init := [0, 1, 2, 3, 4]) (fin := [0, 1, 2, 3, 4, 5]) (sps := [⟨[], [], [5], [(.slot 11)]⟩]) (es' := [(_, _), (_, _), (_, _), (_, _), (_, _), (11, .v (.int .i64 1))]) (by kernel_rfl) rfl rfl
    ⟨st_plain rfl (op_assign _ _ _ _ rfl rfl),
      trivial⟩ ?_
  refine pt_then ?_
  refine ht_loopS h (fun ((s91, s92) : Int × Int) => [(0, .fl .shr 1 (List.map (Value.int .i64) l)), (1, .fl .shr 1 (List.map (Value.int .i64) c)), (2, .fl .shr 1 (List.map (Value.int .u8) b)), (3, .v (.int .i64 at_)), (10, .v (.int .i64 s91)), (11, .v (.int .i64 s92))]) (fun (() : Unit) => []) ?_ ?_
  · rintro ⟨⟩ h
    refine pt_then ?_
    refine ht_seq ?_
    refine ht_seqR hn (El := [(8, .v (.int .i64 (-1))), (9, .v (.int .i64 0))]) (init := []) (fin := [0, 1]) (sps := [⟨[], [], [0], [(.slot 8)]⟩, ⟨[], [], [1], [(.slot 9)]⟩]) (es' := [(8, .v (.int .i64 (-1))), (9, .v (.int .i64 0))]) (by kernel_rfl) rfl rfl
      ⟨st_plain rfl (op_assign _ _ _ _ rfl rfl),
        st_plain rfl (op_assign _ _ _ _ rfl rfl),
        trivial⟩ ?_
    refine pt_then ?_
    refine ht_ret ?_
    obtain rfl := Option.some.inj h
    exact pt_ret hio rfl (.tmp _ _ (.tmp _ _ .nil)) rfl rfl
  · rintro u130 hl131 hr132 ⟨s91, s92⟩ rr135 h ho133
    refine ht_seq ?_
    refine ht_seq ?_
    refine ht_joinS h (fun (s136 : Bool) => [(0, .fl .shr 1 (List.map (Value.int .i64) l)), (1, .fl .shr 1 (List.map (Value.int .i64) c)), (2, .fl .shr 1 (List.map (Value.int .u8) b)), (3, .v (.int .i64 at_)), (10, .v (.int .i64 s91)), (11, .v (.int .i64 s92)), (23, .v (.bool s136))]) ?_ ?_
    · rintro s136 h
      refine pt_then ?_
      refine ht_cond _ rfl (fun hb140 => ?_) (fun hb140 => ?_)
      · have h := cond_t hb140 h
        refine ht_skip ?_
        refine pt_then ?_
        refine ht_seq ?_
        refine ht_block ?_
        refine ht_seq ?_
        obtain ⟨v8, hv8, h⟩ := bind_some h
        obtain ⟨v9, hv9, h⟩ := bind_some h
        obtain ⟨v10, hv10, h⟩ := bind_some h
        obtain ⟨v11, hv11, h⟩ := bind_some h
        obtain ⟨v12, hv12, h⟩ := bind_some h
        refine ht_seqR hn (El := (_ :: _ :: _ :: _ :: _ :: _ :: _ :: (26, .v (.int .i64 s91)) :: (27, .v (.int .i64 v8)) :: (28, .fl .shr 1 (List.map (Value.int .u8) b)) :: (29, .v (.int .i64 at_)) :: (30, .v (.int .i64 s92)) :: (31, .v (.int .i64 v9)) :: (32, .v (.int .i64 v10)) :: (33, .v (.int .i64 v11)) :: (34, .v (.int .i64 v12)) :: (10, .v (.int .i64 v12)) :: [])) (init := [0, 1, 2, 3, 4, 5, 6]) (fin := [0, 1, 2, 3, 5, 16]) (sps := [⟨[4], [], [7], [(.slot 26)]⟩, ⟨[7], [], [8], [(.slot 27)]⟩, ⟨[2], [], [9], [(.slot 28)]⟩, ⟨[3], [], [10], [(.slot 29)]⟩, ⟨[5], [], [11], [(.slot 30)]⟩, ⟨[10, 11], [], [12], [(.slot 31)]⟩, ⟨[12], [], [13], [(.slot 32)]⟩, ⟨[9, 13], [], [14], [(.slot 33)]⟩, ⟨[8, 14], [], [15], [(.slot 34)]⟩, ⟨[15], [4], [16], [(.slot 10)]⟩]) (es' := [(_, _), (_, _), (_, _), (_, _), (_, _), (10, .v (.int .i64 v12))]) (by kernel_rfl) rfl rfl
          ⟨st_plain rfl (op_move _ _ _ _ rfl rfl),
            st_plain rfl (op_bin _ _ _ _ _ rfl rfl (ibind (f := Value.int .i64) (Option.some.inj hv8))),
            st_plain rfl (op_move _ _ _ _ rfl rfl),
            st_plain rfl (op_move _ _ _ _ rfl rfl),
            st_plain rfl (op_move _ _ _ _ rfl rfl),
            st_plain rfl (op_bin _ _ _ _ _ rfl rfl (ibind (f := Value.int .i64) (Option.some.inj hv9))),
            st_plain rfl (op_bin _ _ _ _ _ rfl rfl (ibind (f := Value.int .i64) (Option.some.inj hv10))),
            st_plain rfl (op_call _ _ 38 _ _ rfl Try.call38 rfl (ok_wherryref01_bit b v10 _ hv11) rfl rfl),
            st_plain rfl (op_bin _ _ _ _ _ rfl rfl (ibind (f := Value.int .i64) (Option.some.inj hv12))),
            st_plain rfl (LOp.drop [_] (op_assign _ _ _ _ rfl rfl)),
            trivial⟩ ?_
        refine pt_then ?_
        refine ht_seq ?_
        refine ht_seqR hn (El := [_, _, _, _, _, _, (12, .v (.int .i64 0))]) (init := [0, 1, 2, 3, 4, 5]) (fin := [0, 1, 2, 3, 4, 5, 6]) (sps := [⟨[], [], [6], [(.slot 12)]⟩]) (es' := [(_, _), (_, _), (_, _), (_, _), (_, _), (_, _), (12, .v (.int .i64 0))]) (by kernel_rfl) rfl rfl
          ⟨st_plain rfl (op_assign _ _ _ _ rfl rfl),
            trivial⟩ ?_
        refine pt_then ?_
        refine ht_loopS h (fun (s154 : Int) => [(0, .fl .shr 1 (List.map (Value.int .i64) l)), (1, .fl .shr 1 (List.map (Value.int .i64) c)), (2, .fl .shr 1 (List.map (Value.int .u8) b)), (3, .v (.int .i64 at_)), (11, .v (.int .i64 s92)), (10, .v (.int .i64 v12)), (12, .v (.int .i64 s154))]) (fun (() : Unit) => [(0, .fl .shr 1 (List.map (Value.int .i64) l)), (1, .fl .shr 1 (List.map (Value.int .i64) c)), (2, .fl .shr 1 (List.map (Value.int .u8) b)), (3, .v (.int .i64 at_)), (11, .v (.int .i64 s92)), (10, .v (.int .i64 v12))]) ?_ ?_
        · rintro ⟨⟩ h
          refine pt_inb ?_
          refine pt_then ?_
          obtain ⟨v51, hv51, h⟩ := bind_some h
          refine ht_seqR hn (El := [_, _, _, _, _, _, (24, .v (.int .i64 s92)), (25, .v (.int .i64 v51)), (11, .v (.int .i64 v51))]) (init := [0, 1, 2, 3, 4, 5]) (fin := [0, 1, 2, 3, 5, 8]) (sps := [⟨[4], [], [6], [(.slot 24)]⟩, ⟨[6], [], [7], [(.slot 25)]⟩, ⟨[7], [4], [8], [(.slot 11)]⟩]) (es' := [(_, _), (_, _), (_, _), (_, _), (_, _), (11, .v (.int .i64 v51))]) (by kernel_rfl) rfl rfl
            ⟨st_plain rfl (op_move _ _ _ _ rfl rfl),
              st_plain rfl (op_bin _ _ _ _ _ rfl rfl (ibind (f := Value.int .i64) (Option.some.inj hv51))),
              st_plain rfl (LOp.drop [_] (op_assign _ _ _ _ rfl rfl)),
              trivial⟩ ?_
          exact pt_next _ (Option.some.inj h).symm rfl
        · rintro u161 hl162 hr163 s154 rr166 h ho164
          refine ht_seq ?_
          refine ht_seq ?_
          refine ht_seqR hn (El := [_, _, _, _, _, _, _, (35, .v (.int .i64 s154)), (36, .fl .shr 1 (List.map (Value.int .i64) l)), (37, .v (.int .i64 (l.length : Int))), (38, .v (.bool ((decide (s154 < (l.length : Int))))))]) (init := [0, 1, 2, 3, 4, 5, 6]) (fin := [0, 1, 2, 3, 4, 5, 6, 10]) (sps := [⟨[6], [], [7], [(.slot 35)]⟩, ⟨[0], [], [8], [(.slot 36)]⟩, ⟨[8], [], [9], [(.slot 37)]⟩, ⟨[7, 9], [], [10], [(.slot 38)]⟩]) (es' := [(_, _), (_, _), (_, _), (_, _), (_, _), (_, _), (_, _), (38, .v (.bool ((decide (s154 < (l.length : Int))))))]) (by kernel_rfl) rfl rfl
            ⟨st_plain rfl (op_move _ _ _ _ rfl rfl),
              st_plain rfl (op_move _ _ _ _ rfl rfl),
              st_plain rfl (op_len_fl _ _ _ Try.underlying22 rfl (by decide) (map_len _)),
              st_plain rfl (op_bin _ _ _ _ _ rfl rfl rfl),
              trivial⟩ ?_
          refine pt_then ?_
          refine ht_cond _ rfl (fun hb167 => ?_) (fun hb167 => ?_)
          · have h := cond_t hb167 h
            refine ht_skip ?_
            refine pt_then ?_
            refine ht_seq ?_
            refine ht_block ?_
            refine ht_seq ?_
            refine ht_joinS h (fun (s168 : Bool) => [(0, .fl .shr 1 (List.map (Value.int .i64) l)), (1, .fl .shr 1 (List.map (Value.int .i64) c)), (2, .fl .shr 1 (List.map (Value.int .u8) b)), (3, .v (.int .i64 at_)), (11, .v (.int .i64 s92)), (10, .v (.int .i64 v12)), (12, .v (.int .i64 s154)), (54, .v (.bool s168))]) ?_ ?_
            · rintro s168 h
              refine pt_then ?_
              refine ht_cond _ rfl (fun hb172 => ?_) (fun hb172 => ?_)
              · have h := cond_t hb172 h
                refine ht_seq ?_
                obtain ⟨v23, hv23, h⟩ := bind_some h
                refine ht_seqR hn (El := [_, _, _, _, _, _, _, _, (55, .v (.int .i64 s154)), (56, .v (.int .i64 at_)), (57, .v (.int .i64 s92)), (58, .v (.int .i64 v23)), (8, .v (.int .i64 s154)), (9, .v (.int .i64 v23))]) (init := [0, 1, 2, 3, 4, 5, 6, 7]) (fin := [12, 13]) (sps := [⟨[6], [], [8], [(.slot 55)]⟩, ⟨[3], [], [9], [(.slot 56)]⟩, ⟨[4], [], [10], [(.slot 57)]⟩, ⟨[9, 10], [], [11], [(.slot 58)]⟩, ⟨[8], [], [12], [(.slot 8)]⟩, ⟨[11], [], [13], [(.slot 9)]⟩]) (es' := [(8, .v (.int .i64 s154)), (9, .v (.int .i64 v23))]) (by kernel_rfl) rfl rfl
                  ⟨st_plain rfl (op_move _ _ _ _ rfl rfl),
                    st_plain rfl (op_move _ _ _ _ rfl rfl),
                    st_plain rfl (op_move _ _ _ _ rfl rfl),
                    st_plain rfl (op_bin _ _ _ _ _ rfl rfl (ibind (f := Value.int .i64) (Option.some.inj hv23))),
                    st_plain rfl (op_assign _ _ _ _ rfl rfl),
                    st_plain rfl (op_assign _ _ _ _ rfl rfl),
                    trivial⟩ ?_
                refine pt_then ?_
                refine ht_ret ?_
                refine pt_r_in ?_
                refine pt_r_then ?_
                refine pt_r_then ?_
                refine pt_r_in ?_
                refine pt_r_in ?_
                refine pt_r_then ?_
                refine pt_r_then ?_
                refine pt_r_in ?_
                refine pt_r_then ?_
                have h := hr163 _ (ho164 _ (Option.some.inj h).symm).symm
                have h := hr132 _ (ho133 _ (Option.some.inj h).symm).symm
                obtain rfl := Option.some.inj h
                exact pt_ret hio rfl (.tmp _ _ (.tmp _ _ .nil)) rfl rfl
              · have h := cond_f hb172 h
                refine ht_skip ?_
                refine pt_inb ?_
                refine pt_then ?_
                obtain ⟨v24, hv24, h⟩ := bind_some h
                refine ht_seqR hn (El := [_, _, _, _, _, _, _, _, (39, .v (.int .i64 s154)), (40, .v (.int .i64 v24)), (12, .v (.int .i64 v24))]) (init := [0, 1, 2, 3, 4, 5, 6, 7]) (fin := [0, 1, 2, 3, 4, 5, 10]) (sps := [⟨[6], [], [8], [(.slot 39)]⟩, ⟨[8], [], [9], [(.slot 40)]⟩, ⟨[9], [6], [10], [(.slot 12)]⟩]) (es' := [(_, _), (_, _), (_, _), (_, _), (_, _), (_, _), (12, .v (.int .i64 v24))]) (by kernel_rfl) rfl rfl
                  ⟨st_plain rfl (op_move _ _ _ _ rfl rfl),
                    st_plain rfl (op_bin _ _ _ _ _ rfl rfl (ibind (f := Value.int .i64) (Option.some.inj hv24))),
                    st_plain rfl (LOp.drop [_] (op_assign _ _ _ _ rfl rfl)),
                    trivial⟩ ?_
                exact pt_next _ (Option.some.inj h).symm rfl
            · intro u169 h hl170 hr171
              obtain ⟨v14, hv14, h⟩ := bind_some h
              obtain ⟨v15, hv15, h⟩ := bind_some h
              refine cond_some h (fun hg9_6 h => ?_) (fun hg9_6 h => ?_)
              · obtain ⟨v16, hv16, h⟩ := bind_some h
                obtain ⟨v17, hv17, h⟩ := bind_some h
                refine ht_seqR hn (El := (_ :: _ :: _ :: _ :: _ :: _ :: _ :: _ :: (41, .fl .shr 1 (List.map (Value.int .i64) l)) :: (42, .v (.int .i64 s154)) :: (43, .eref (.slot 41) (v14 * 1)) :: (44, .v (.int .i64 v15)) :: (45, .v (.int .i64 s92)) :: (46, .v (.bool (v15 == s92))) :: (47, .v (.bool true)) :: (48, .fl .shr 1 (List.map (Value.int .i64) c)) :: (49, .v (.int .i64 s154)) :: (50, .eref (.slot 48) (v16 * 1)) :: (51, .v (.int .i64 v17)) :: (52, .v (.int .i64 v12)) :: (53, .v (.bool (v17 == v12))) :: (54, .v (.bool (v17 == v12))) :: [])) (init := [0, 1, 2, 3, 4, 5, 6, 7]) (fin := [0, 1, 2, 3, 4, 5, 6, 21]) (sps := [⟨[0], [], [8], [(.slot 41)]⟩, ⟨[6], [], [9], [(.slot 42)]⟩, ⟨[8, 9], [], [10], [(.slot 43)]⟩, ⟨[10, 8], [], [11], [(.slot 44)]⟩, ⟨[4], [], [12], [(.slot 45)]⟩, ⟨[11, 12], [], [13], [(.slot 46)]⟩, ⟨[13], [], [14], [(.slot 47)]⟩, ⟨[14, 1], [], [15], [(.slot 48)]⟩, ⟨[14, 6], [], [16], [(.slot 49)]⟩, ⟨[14, 15, 16], [], [17], [(.slot 50)]⟩, ⟨[14, 17, 15], [], [18], [(.slot 51)]⟩, ⟨[14, 5], [], [19], [(.slot 52)]⟩, ⟨[14, 18, 19], [], [20], [(.slot 53)]⟩, ⟨[14, 20], [], [21], [(.slot 54)]⟩]) (es' := [(_, _), (_, _), (_, _), (_, _), (_, _), (_, _), (_, _), (54, .v (.bool (v17 == v12)))]) (by kernel_rfl) rfl rfl
                  ⟨st_plain rfl (op_move _ _ _ _ rfl rfl),
                    st_plain rfl (op_move _ _ _ _ rfl rfl),
                    st_plain rfl (op_ix _ _ _ _ _ _ _ _ Try.underlying22 sz3 (by decide) rfl rfl rfl (ix_ok hv14).1 (map_lt (ix_ok hv14).2) rfl),
                    st_plain rfl (op_load_e _ _ _ _ _ _ Try.underlying3 rfl rfl rfl (map_get hv15)),
                    st_plain rfl (op_move _ _ _ _ rfl rfl),
                    st_plain rfl (op_bin _ _ _ _ _ rfl rfl rfl),
                    st_plain rfl (op_move _ _ _ _ (congrArg (fun b => AV.v (Value.bool b)) hg9_6) rfl),
                    st_run 6 47 true rfl rfl rfl (List.Mem.head _) (op_move _ _ _ _ rfl rfl),
                    st_run 6 47 true rfl rfl rfl (List.Mem.head _) (op_move _ _ _ _ rfl rfl),
                    st_run 6 47 true rfl rfl rfl (List.Mem.head _) (op_ix _ _ _ _ _ _ _ _ Try.underlying22 sz3 (by decide) rfl rfl rfl (ix_ok hv16).1 (map_lt (ix_ok hv16).2) rfl),
                    st_run 6 47 true rfl rfl rfl (List.Mem.head _) (op_load_e _ _ _ _ _ _ Try.underlying3 rfl rfl rfl (map_get hv17)),
                    st_run 6 47 true rfl rfl rfl (List.Mem.head _) (op_move _ _ _ _ rfl rfl),
                    st_run 6 47 true rfl rfl rfl (List.Mem.head _) (op_bin _ _ _ _ _ rfl rfl rfl),
                    st_plain rfl (op_pick _ _ true _ rfl rfl),
                    trivial⟩ ?_
                exact hl170 _ (Option.some.inj h).symm
              · refine ht_seqR hn (El := (_ :: _ :: _ :: _ :: _ :: _ :: _ :: _ :: (41, .fl .shr 1 (List.map (Value.int .i64) l)) :: (42, .v (.int .i64 s154)) :: (43, .eref (.slot 41) (v14 * 1)) :: (44, .v (.int .i64 v15)) :: (45, .v (.int .i64 s92)) :: (46, .v (.bool (v15 == s92))) :: (47, .v (.bool false)) :: (48, .v undef) :: (49, .v undef) :: (50, .v undef) :: (51, .v undef) :: (52, .v undef) :: (53, .v undef) :: (54, .v (.bool false)) :: [])) (init := [0, 1, 2, 3, 4, 5, 6, 7]) (fin := [0, 1, 2, 3, 4, 5, 6, 21]) (sps := [⟨[0], [], [8], [(.slot 41)]⟩, ⟨[6], [], [9], [(.slot 42)]⟩, ⟨[8, 9], [], [10], [(.slot 43)]⟩, ⟨[10, 8], [], [11], [(.slot 44)]⟩, ⟨[4], [], [12], [(.slot 45)]⟩, ⟨[11, 12], [], [13], [(.slot 46)]⟩, ⟨[13], [], [14], [(.slot 47)]⟩, ⟨[14], [], [15], [(.slot 48)]⟩, ⟨[14], [], [16], [(.slot 49)]⟩, ⟨[14], [], [17], [(.slot 50)]⟩, ⟨[14], [], [18], [(.slot 51)]⟩, ⟨[14], [], [19], [(.slot 52)]⟩, ⟨[14], [], [20], [(.slot 53)]⟩, ⟨[14], [], [21], [(.slot 54)]⟩]) (es' := [(_, _), (_, _), (_, _), (_, _), (_, _), (_, _), (_, _), (54, .v (.bool false))]) (by kernel_rfl) rfl rfl
                  ⟨st_plain rfl (op_move _ _ _ _ rfl rfl),
                    st_plain rfl (op_move _ _ _ _ rfl rfl),
                    st_plain rfl (op_ix _ _ _ _ _ _ _ _ Try.underlying22 sz3 (by decide) rfl rfl rfl (ix_ok hv14).1 (map_lt (ix_ok hv14).2) rfl),
                    st_plain rfl (op_load_e _ _ _ _ _ _ Try.underlying3 rfl rfl rfl (map_get hv15)),
                    st_plain rfl (op_move _ _ _ _ rfl rfl),
                    st_plain rfl (op_bin _ _ _ _ _ rfl rfl rfl),
                    st_plain rfl (op_move _ _ _ _ (congrArg (fun b => AV.v (Value.bool b)) hg9_6) rfl),
                    st_skip 6 47 _ true rfl rfl rfl rfl (List.Mem.head _),
                    st_skip 6 47 _ true rfl rfl rfl rfl (List.Mem.head _),
                    st_skip 6 47 _ true rfl rfl rfl rfl (List.Mem.head _),
                    st_skip 6 47 _ true rfl rfl rfl rfl (List.Mem.head _),
                    st_skip 6 47 _ true rfl rfl rfl rfl (List.Mem.head _),
                    st_skip 6 47 _ true rfl rfl rfl rfl (List.Mem.head _),
                    st_plain rfl (op_pick _ _ false _ rfl rfl),
                    trivial⟩ ?_
                exact hl170 _ (Option.some.inj h).symm
          · have h := cond_f hb167 h
            refine ht_exit ?_
            refine pt_x_then ?_
            refine pt_x_then ?_
            refine pt_x_in ?_
            refine pt_pick [0, 1, 2, 3, 4, 5] (by kernel_rfl) (es' := [(_, _), (_, _), (_, _), (_, _), (_, _), (_, _)]) rfl ?_
            exact hl162 _ (ho164 _ (Option.some.inj h).symm).symm
      · have h := cond_f hb140 h
        refine ht_exit ?_
        refine pt_x_then ?_
        refine pt_x_then ?_
        refine pt_x_in ?_
        refine pt_pick [] (by kernel_rfl) (es' := []) rfl ?_
        exact hl131 _ (ho133 _ (Option.some.inj h).symm).symm
    · intro u137 h hl138 hr139
      refine cond_some h (fun hg3_2 h => ?_) (fun hg3_2 h => ?_)
      · obtain ⟨v1, hv1, h⟩ := bind_some h
        obtain ⟨v2, hv2, h⟩ := bind_some h
        refine ht_seqR hn (El := (_ :: _ :: _ :: _ :: _ :: _ :: (13, .v (.int .i64 s92)) :: (14, .v (.bool ((decide (s92 ≤ 15))))) :: (15, .v (.bool true)) :: (16, .v (.int .i64 at_)) :: (17, .v (.int .i64 s92)) :: (18, .v (.int .i64 v1)) :: (19, .fl .shr 1 (List.map (Value.int .u8) b)) :: (20, .v (.int .i64 (b.length : Int))) :: (21, .v (.int .i64 v2)) :: (22, .v (.bool ((decide (v1 ≤ v2))))) :: (23, .v (.bool ((decide (v1 ≤ v2))))) :: [])) (init := [0, 1, 2, 3, 4, 5]) (fin := [0, 1, 2, 3, 4, 5, 16]) (sps := [⟨[5], [], [6], [(.slot 13)]⟩, ⟨[6], [], [7], [(.slot 14)]⟩, ⟨[7], [], [8], [(.slot 15)]⟩, ⟨[8, 3], [], [9], [(.slot 16)]⟩, ⟨[8, 5], [], [10], [(.slot 17)]⟩, ⟨[8, 9, 10], [], [11], [(.slot 18)]⟩, ⟨[8, 2], [], [12], [(.slot 19)]⟩, ⟨[8, 12], [], [13], [(.slot 20)]⟩, ⟨[8, 13], [], [14], [(.slot 21)]⟩, ⟨[8, 11, 14], [], [15], [(.slot 22)]⟩, ⟨[8, 15], [], [16], [(.slot 23)]⟩]) (es' := [(_, _), (_, _), (_, _), (_, _), (_, _), (_, _), (23, .v (.bool ((decide (v1 ≤ v2)))))]) (by kernel_rfl) rfl rfl
          ⟨st_plain rfl (op_move _ _ _ _ rfl rfl),
            st_plain rfl (op_bin _ _ _ _ _ rfl rfl rfl),
            st_plain rfl (op_move _ _ _ _ (congrArg (fun b => AV.v (Value.bool b)) hg3_2) rfl),
            st_run 2 15 true rfl rfl rfl (List.Mem.head _) (op_move _ _ _ _ rfl rfl),
            st_run 2 15 true rfl rfl rfl (List.Mem.head _) (op_move _ _ _ _ rfl rfl),
            st_run 2 15 true rfl rfl rfl (List.Mem.head _) (op_bin _ _ _ _ _ rfl rfl (ibind (f := Value.int .i64) (Option.some.inj hv1))),
            st_run 2 15 true rfl rfl rfl (List.Mem.head _) (op_move _ _ _ _ rfl rfl),
            st_run 2 15 true rfl rfl rfl (List.Mem.head _) (op_len_fl _ _ _ Try.underlying23 rfl (by decide) (map_len _)),
            st_run 2 15 true rfl rfl rfl (List.Mem.head _) (op_bin _ _ _ _ _ rfl rfl (ibind (f := Value.int .i64) (Option.some.inj hv2))),
            st_run 2 15 true rfl rfl rfl (List.Mem.head _) (op_bin _ _ _ _ _ rfl rfl rfl),
            st_plain rfl (op_pick _ _ true _ rfl rfl),
            trivial⟩ ?_
        exact hl138 _ (Option.some.inj h).symm
      · refine ht_seqR hn (El := (_ :: _ :: _ :: _ :: _ :: _ :: (13, .v (.int .i64 s92)) :: (14, .v (.bool ((decide (s92 ≤ 15))))) :: (15, .v (.bool false)) :: (16, .v undef) :: (17, .v undef) :: (18, .v undef) :: (19, .v undef) :: (20, .v undef) :: (21, .v undef) :: (22, .v undef) :: (23, .v (.bool false)) :: [])) (init := [0, 1, 2, 3, 4, 5]) (fin := [0, 1, 2, 3, 4, 5, 16]) (sps := [⟨[5], [], [6], [(.slot 13)]⟩, ⟨[6], [], [7], [(.slot 14)]⟩, ⟨[7], [], [8], [(.slot 15)]⟩, ⟨[8], [], [9], [(.slot 16)]⟩, ⟨[8], [], [10], [(.slot 17)]⟩, ⟨[8], [], [11], [(.slot 18)]⟩, ⟨[8], [], [12], [(.slot 19)]⟩, ⟨[8], [], [13], [(.slot 20)]⟩, ⟨[8], [], [14], [(.slot 21)]⟩, ⟨[8], [], [15], [(.slot 22)]⟩, ⟨[8], [], [16], [(.slot 23)]⟩]) (es' := [(_, _), (_, _), (_, _), (_, _), (_, _), (_, _), (23, .v (.bool false))]) (by kernel_rfl) rfl rfl
          ⟨st_plain rfl (op_move _ _ _ _ rfl rfl),
            st_plain rfl (op_bin _ _ _ _ _ rfl rfl rfl),
            st_plain rfl (op_move _ _ _ _ (congrArg (fun b => AV.v (Value.bool b)) hg3_2) rfl),
            st_skip 2 15 _ true rfl rfl rfl rfl (List.Mem.head _),
            st_skip 2 15 _ true rfl rfl rfl rfl (List.Mem.head _),
            st_skip 2 15 _ true rfl rfl rfl rfl (List.Mem.head _),
            st_skip 2 15 _ true rfl rfl rfl rfl (List.Mem.head _),
            st_skip 2 15 _ true rfl rfl rfl rfl (List.Mem.head _),
            st_skip 2 15 _ true rfl rfl rfl rfl (List.Mem.head _),
            st_skip 2 15 _ true rfl rfl rfl rfl (List.Mem.head _),
            st_plain rfl (op_pick _ _ false _ rfl rfl),
            trivial⟩ ?_
        exact hl138 _ (Option.some.inj h).symm

set_option maxHeartbeats 1000000 in
theorem ok_wherryref01_Read (l : (List Int)) (b : (List Int)) (at_ : Int) (r : (Int × Int × Int)) (h : Sh.wherryref01_Read l b at_ = some r) : FnOK Try.prog 14 [.fl .shr 1 (List.map (Value.int .i64) l), .fl .shr 1 (List.map (Value.int .u8) b), .v (.int .i64 at_)] (.tup [.v (.int .i64 r.1), .v (.int .i64 r.2.1), .v (.int .i64 r.2.2)]) := by
  unfold Sh.wherryref01_Read at h
  refine fn_ok Try.func14 rfl (Nat.le_of_ble_eq_true rfl) rfl rfl fun g0 hn hio => ?_
  refine ht_seq ?_
  refine ht_seqR hn (El := [_, _, _, (6, .v (.int .i64 0)), (7, .v (.int .i64 0)), (8, .v (.int .i64 0))]) (init := [0, 1, 2]) (fin := [0, 1, 2]) (sps := [⟨[], [], [3], [(.slot 6)]⟩, ⟨[], [], [4], [(.slot 7)]⟩, ⟨[], [], [5], [(.slot 8)]⟩]) (es' := [(_, _), (_, _), (_, _)]) (by kernel_rfl) rfl rfl
    ⟨st_plain rfl (op_assign _ _ _ _ rfl rfl),
      st_plain rfl (op_assign _ _ _ _ rfl rfl),
      st_plain rfl (op_assign _ _ _ _ rfl rfl),
      trivial⟩ ?_
  refine pt_then ?_
  refine ht_seq ?_
  refine ht_seq ?_
  obtain ⟨v1, hv1, h⟩ := bind_some h
  refine ht_seqR hn (El := [_, _, _, (12, .fl .shr 1 (List.map (Value.int .i64) l)), (13, .v (.int .i64 v1)), (9, .v (.int .i64 v1))]) (init := [0, 1, 2]) (fin := [0, 1, 2, 5]) (sps := [⟨[0], [], [3], [(.slot 12)]⟩, ⟨[3], [], [4], [(.slot 13)]⟩, ⟨[4], [], [5], [(.slot 9)]⟩]) (es' := [(_, _), (_, _), (_, _), (9, .v (.int .i64 v1))]) (by kernel_rfl) rfl rfl
    ⟨st_plain rfl (op_move _ _ _ _ rfl rfl),
      st_plain rfl (op_call _ _ 16 _ _ rfl Try.call16 rfl (ok_wherryref01_CheckLengths l _ hv1) rfl rfl),
      st_plain rfl (op_assign _ _ _ _ rfl rfl),
      trivial⟩ ?_
  refine pt_then ?_
  refine ht_seq ?_
  refine ht_seqR hn (El := [_, _, _, _, (14, .v (.int .i64 v1)), (15, .v (.bool (v1 != 0)))]) (init := [0, 1, 2, 3]) (fin := [0, 1, 2, 3, 5]) (sps := [⟨[3], [], [4], [(.slot 14)]⟩, ⟨[4], [], [5], [(.slot 15)]⟩]) (es' := [(_, _), (_, _), (_, _), (_, _), (15, .v (.bool (v1 != 0)))]) (by kernel_rfl) rfl rfl
    ⟨st_plain rfl (op_move _ _ _ _ rfl rfl),
      st_plain rfl (op_bin _ _ _ _ _ rfl rfl rfl),
      trivial⟩ ?_
  refine pt_then ?_
  refine ht_cond _ rfl (fun hb2 => ?_) (fun hb2 => ?_)
  · have h := cond_t hb2 h
    refine ht_seq ?_
    refine ht_seqR hn (El := [_, _, _, _, _, (16, .v (.int .i64 v1)), (6, .v (.int .i64 0)), (7, .v (.int .i64 0)), (8, .v (.int .i64 v1))]) (init := [0, 1, 2, 3, 4]) (fin := [6, 7, 8]) (sps := [⟨[3], [], [5], [(.slot 16)]⟩, ⟨[], [], [6], [(.slot 6)]⟩, ⟨[], [], [7], [(.slot 7)]⟩, ⟨[5], [], [8], [(.slot 8)]⟩]) (es' := [(6, .v (.int .i64 0)), (7, .v (.int .i64 0)), (8, .v (.int .i64 v1))]) (by kernel_rfl) rfl rfl
      ⟨st_plain rfl (op_move _ _ _ _ rfl rfl),
        st_plain rfl (op_assign _ _ _ _ rfl rfl),
        st_plain rfl (op_assign _ _ _ _ rfl rfl),
        st_plain rfl (op_assign _ _ _ _ rfl rfl),
        trivial⟩ ?_
    refine pt_then ?_
    refine ht_ret ?_
    refine pt_r_then ?_
    obtain rfl := Option.some.inj h
    exact pt_ret hio rfl (.tmp _ _ (.tmp _ _ (.tmp _ _ .nil))) rfl rfl
  · have h := cond_f hb2 h
    refine ht_skip ?_
    refine pt_then ?_
    refine ht_seq ?_
    refine ht_seq ?_
    obtain ⟨v3, hv3, h⟩ := bind_some h
    obtain ⟨v4, hv4, h⟩ := bind_some h
    refine ht_seqR hn (El := [_, _, _, _, _, (17, .v (.int .i64 at_)), (18, .fl .shr 1 (List.map (Value.int .u8) b)), (19, .v (.int .i64 (b.length : Int))), (20, .v (.int .i64 v3)), (21, .v (.bool v4)), (22, .v (.bool (!v4)))]) (init := [0, 1, 2, 3, 4]) (fin := [0, 1, 2, 10]) (sps := [⟨[2], [], [5], [(.slot 17)]⟩, ⟨[1], [], [6], [(.slot 18)]⟩, ⟨[6], [], [7], [(.slot 19)]⟩, ⟨[7], [], [8], [(.slot 20)]⟩, ⟨[5, 8], [], [9], [(.slot 21)]⟩, ⟨[9], [], [10], [(.slot 22)]⟩]) (es' := [(_, _), (_, _), (_, _), (22, .v (.bool (!v4)))]) (by kernel_rfl) rfl rfl
      ⟨st_plain rfl (op_move _ _ _ _ rfl rfl),
        st_plain rfl (op_move _ _ _ _ rfl rfl),
        st_plain rfl (op_len_fl _ _ _ Try.underlying23 rfl (by decide) (map_len _)),
        st_plain rfl (op_bin _ _ _ _ _ rfl rfl (ibind (f := Value.int .i64) (Option.some.inj hv3))),
        st_plain rfl (op_call _ _ 28 _ _ rfl Try.call28 rfl (ok_wherryref01_in at_ 0 v3 _ hv4) rfl rfl),
        st_plain rfl (op_un _ _ _ _ rfl rfl),
        trivial⟩ ?_
    refine pt_then ?_
    refine ht_cond _ rfl (fun hb5 => ?_) (fun hb5 => ?_)
    · have h := cond_t hb5 h
      refine ht_seq ?_
      refine ht_seqR hn (El := [_, _, _, _, (6, .v (.int .i64 0)), (7, .v (.int .i64 0)), (8, .v (.int .i64 1))]) (init := [0, 1, 2, 3]) (fin := [4, 5, 6]) (sps := [⟨[], [], [4], [(.slot 6)]⟩, ⟨[], [], [5], [(.slot 7)]⟩, ⟨[], [], [6], [(.slot 8)]⟩]) (es' := [(6, .v (.int .i64 0)), (7, .v (.int .i64 0)), (8, .v (.int .i64 1))]) (by kernel_rfl) rfl rfl
        ⟨st_plain rfl (op_assign _ _ _ _ rfl rfl),
          st_plain rfl (op_assign _ _ _ _ rfl rfl),
          st_plain rfl (op_assign _ _ _ _ rfl rfl),
          trivial⟩ ?_
      refine pt_then ?_
      refine ht_ret ?_
      refine pt_r_then ?_
      obtain rfl := Option.some.inj h
      exact pt_ret hio rfl (.tmp _ _ (.tmp _ _ (.tmp _ _ .nil))) rfl rfl
    · have h := cond_f hb5 h
      refine ht_skip ?_
      refine pt_then ?_
      refine ht_seq ?_
      obtain ⟨v6, hv6, h⟩ := bind_some h
      obtain ⟨v7, hv7, h⟩ := bind_some h
      refine ht_seqR hn (El := (_ :: _ :: _ :: _ :: (24, .fl .shr 1 (List.map (Value.int .i64) l)) :: (25, .fl .shr 1 (List.map (Value.int .i64) l)) :: (26, .fl (.own 3) 1 (List.map (Value.int .i64) v6)) :: (27, .fl .shr 1 (List.map (Value.int .u8) b)) :: (28, .v (.int .i64 at_)) :: (29, .tup [.v (.int .i64 v7.1), .v (.int .i64 v7.2)]) :: (23, .tup [.v (.int .i64 v7.1), .v (.int .i64 v7.2)]) :: (30, .v (.int .i64 v7.1)) :: (31, .v (.int .i64 v7.2)) :: (10, .v (.int .i64 v7.1)) :: (11, .v (.int .i64 v7.2)) :: [])) (init := [0, 1, 2, 3]) (fin := [13, 14]) (sps := [⟨[0], [], [4], [(.slot 24)]⟩, ⟨[0], [], [5], [(.slot 25)]⟩, ⟨[5], [], [6], [(.slot 26)]⟩, ⟨[1], [], [7], [(.slot 27)]⟩, ⟨[2], [], [8], [(.slot 28)]⟩, ⟨[4, 6, 7, 8], [], [9], [(.slot 29)]⟩, ⟨[], [9], [10], [(.slot 23)]⟩, ⟨[10], [], [11], [(.slot 30)]⟩, ⟨[10], [], [12], [(.slot 31)]⟩, ⟨[11], [], [13], [(.slot 10)]⟩, ⟨[12], [], [14], [(.slot 11)]⟩]) (es' := [(10, .v (.int .i64 v7.1)), (11, .v (.int .i64 v7.2))]) (by kernel_rfl) rfl rfl
        ⟨st_plain rfl (op_move _ _ _ _ rfl rfl),
          st_plain rfl (op_move _ _ _ _ rfl rfl),
          st_plain rfl (op_call _ _ 26 _ _ rfl Try.call26 rfl (ok_wherryref01_codes l _ hv6) rfl rfl),
          st_plain rfl (op_move _ _ _ _ rfl rfl),
          st_plain rfl (op_move _ _ _ _ rfl rfl),
          st_plain rfl (op_call _ _ 29 _ _ rfl Try.call29 rfl (ok_wherryref01_read l v6 b at_ _ hv7) rfl rfl),
          st_plain rfl (op_move_take _ _ _ _ rfl),
          st_plain rfl (op_extract _ _ _ _ _ rfl rfl (Nat.le_of_ble_eq_true rfl) rfl rfl),
          st_plain rfl (op_extract _ _ _ _ _ rfl rfl (Nat.le_of_ble_eq_true rfl) rfl rfl),
          st_plain rfl (op_assign _ _ _ _ rfl rfl),
          st_plain rfl (op_assign _ _ _ _ rfl rfl),
          trivial⟩ ?_
      refine pt_then ?_
      refine ht_seq ?_
      refine ht_seq ?_
      refine ht_seqR hn (El := [_, _, (32, .v (.int .i64 v7.1)), (33, .v (.bool ((decide (v7.1 < 0)))))]) (init := [0, 1]) (fin := [0, 1, 3]) (sps := [⟨[0], [], [2], [(.slot 32)]⟩, ⟨[2], [], [3], [(.slot 33)]⟩]) (es' := [(_, _), (_, _), (33, .v (.bool ((decide (v7.1 < 0)))))]) (by kernel_rfl) rfl rfl
        ⟨st_plain rfl (op_move _ _ _ _ rfl rfl),
          st_plain rfl (op_bin _ _ _ _ _ rfl rfl rfl),
          trivial⟩ ?_
      refine pt_then ?_
      refine ht_cond _ rfl (fun hb8 => ?_) (fun hb8 => ?_)
      · have h := cond_t hb8 h
        refine ht_seq ?_
        refine ht_seqR hn (El := [_, _, _, (6, .v (.int .i64 0)), (7, .v (.int .i64 0)), (8, .v (.int .i64 3))]) (init := [0, 1, 2]) (fin := [3, 4, 5]) (sps := [⟨[], [], [3], [(.slot 6)]⟩, ⟨[], [], [4], [(.slot 7)]⟩, ⟨[], [], [5], [(.slot 8)]⟩]) (es' := [(6, .v (.int .i64 0)), (7, .v (.int .i64 0)), (8, .v (.int .i64 3))]) (by kernel_rfl) rfl rfl
          ⟨st_plain rfl (op_assign _ _ _ _ rfl rfl),
            st_plain rfl (op_assign _ _ _ _ rfl rfl),
            st_plain rfl (op_assign _ _ _ _ rfl rfl),
            trivial⟩ ?_
        refine pt_then ?_
        refine ht_ret ?_
        refine pt_r_then ?_
        obtain rfl := Option.some.inj h
        exact pt_ret hio rfl (.tmp _ _ (.tmp _ _ (.tmp _ _ .nil))) rfl rfl
      · have h := cond_f hb8 h
        refine ht_skip ?_
        refine pt_then ?_
        refine ht_seq ?_
        refine ht_seqR hn (El := [_, _, _, (34, .v (.int .i64 v7.1)), (35, .v (.int .i64 v7.2)), (6, .v (.int .i64 v7.1)), (7, .v (.int .i64 v7.2)), (8, .v (.int .i64 0))]) (init := [0, 1, 2]) (fin := [5, 6, 7]) (sps := [⟨[0], [], [3], [(.slot 34)]⟩, ⟨[1], [], [4], [(.slot 35)]⟩, ⟨[3], [], [5], [(.slot 6)]⟩, ⟨[4], [], [6], [(.slot 7)]⟩, ⟨[], [], [7], [(.slot 8)]⟩]) (es' := [(6, .v (.int .i64 v7.1)), (7, .v (.int .i64 v7.2)), (8, .v (.int .i64 0))]) (by kernel_rfl) rfl rfl
          ⟨st_plain rfl (op_move _ _ _ _ rfl rfl),
            st_plain rfl (op_move _ _ _ _ rfl rfl),
            st_plain rfl (op_assign _ _ _ _ rfl rfl),
            st_plain rfl (op_assign _ _ _ _ rfl rfl),
            st_plain rfl (op_assign _ _ _ _ rfl rfl),
            trivial⟩ ?_
        refine pt_then ?_
        refine ht_ret ?_
        obtain rfl := Option.some.inj h
        exact pt_ret hio rfl (.tmp _ _ (.tmp _ _ (.tmp _ _ .nil))) rfl rfl

set_option maxHeartbeats 1000000 in
theorem ok_canon_Weigh (lengths : (List Int)) (r : Int) (h : Sh.canon_Weigh lengths = some r) : FnOK Try.prog 17 [.fl .shr 1 (List.map (Value.int .i64) lengths)] (.v (.int .i64 r)) := by
  unfold Sh.canon_Weigh at h
  refine fn_ok Try.func17 rfl (Nat.le_of_ble_eq_true rfl) rfl rfl fun g0 hn hio => ?_
  refine ht_seq ?_
  refine ht_seqR hn (El := [_, (2, .v (.int .i64 0))]) (init := [0]) (fin := [0]) (sps := [⟨[], [], [1], [(.slot 2)]⟩]) (es' := [(_, _)]) (by kernel_rfl) rfl rfl
    ⟨st_plain rfl (op_assign _ _ _ _ rfl rfl),
      trivial⟩ ?_
  refine pt_then ?_
  refine ht_seq ?_
  refine ht_seq ?_
  obtain ⟨v1, hv1, h⟩ := bind_some h
  refine ht_seqR hn (El := [_, (3, .fl .shr 1 (List.map (Value.int .i64) lengths)), (4, .v (.bool v1)), (5, .v (.bool (!v1)))]) (init := [0]) (fin := [0, 3]) (sps := [⟨[0], [], [1], [(.slot 3)]⟩, ⟨[1], [], [2], [(.slot 4)]⟩, ⟨[2], [], [3], [(.slot 5)]⟩]) (es' := [(_, _), (5, .v (.bool (!v1)))]) (by kernel_rfl) rfl rfl
    ⟨st_plain rfl (op_move _ _ _ _ rfl rfl),
      st_plain rfl (op_call _ _ 30 _ _ rfl Try.call30 rfl (ok_canon_valid lengths _ hv1) rfl rfl),
      st_plain rfl (op_un _ _ _ _ rfl rfl),
      trivial⟩ ?_
  refine pt_then ?_
  refine ht_cond _ rfl (fun hb2 => ?_) (fun hb2 => ?_)
  · have h := cond_t hb2 h
    refine ht_seq ?_
    refine ht_seqR hn (El := [_, _, (2, .v (.int .i64 0))]) (init := [0, 1]) (fin := [2]) (sps := [⟨[], [], [2], [(.slot 2)]⟩]) (es' := [(2, .v (.int .i64 0))]) (by kernel_rfl) rfl rfl
      ⟨st_plain rfl (op_assign _ _ _ _ rfl rfl),
        trivial⟩ ?_
    refine pt_then ?_
    refine ht_ret ?_
    refine pt_r_then ?_
    obtain rfl := Option.some.inj h
    exact pt_ret hio rfl (.tmp _ _ .nil) rfl rfl
  · have h := cond_f hb2 h
    refine ht_skip ?_
    refine pt_then ?_
    refine ht_seq ?_
    obtain ⟨v3, hv3, h⟩ := bind_some h
    obtain ⟨v4, hv4, h⟩ := bind_some h
    refine ht_seqR hn (El := [_, _, (6, .fl .shr 1 (List.map (Value.int .i64) lengths)), (7, .v (.agg (List.map (Value.int .i64) v3).toArray)), (8, .v (.int .i64 v4)), (2, .v (.int .i64 v4))]) (init := [0, 1]) (fin := [5]) (sps := [⟨[0], [], [2], [(.slot 6)]⟩, ⟨[2], [], [3], [(.slot 7)]⟩, ⟨[3], [], [4], [(.slot 8)]⟩, ⟨[4], [], [5], [(.slot 2)]⟩]) (es' := [(2, .v (.int .i64 v4))]) (by kernel_rfl) rfl rfl
      ⟨st_plain rfl (op_move _ _ _ _ rfl rfl),
        st_plain rfl (op_call _ _ 25 _ _ rfl Try.call25 rfl (ok_canon_count lengths _ hv3) rfl rfl),
        st_plain rfl (op_call _ _ 34 _ _ rfl Try.call34 rfl (ok_canon_tally_weight v3 _ hv4) rfl rfl),
        st_plain rfl (op_assign _ _ _ _ rfl rfl),
        trivial⟩ ?_
    refine pt_then ?_
    refine ht_ret ?_
    obtain rfl := Option.some.inj h
    exact pt_ret hio rfl (.tmp _ _ .nil) rfl rfl

end Go.Proofs.Ytjnihhkkaioahaa
