/-
  The model's runs are what is told in Lean.
-/
import Derived.Test.YtcghjjldjfghgaaProg
import Derived.KernelRfl
import Derived.Test.YtcghjjldjfghgaaSh
set_option linter.unusedVariables false
namespace Go.Proofs.Ytcghjjldjfghgaa
open Go.Abs Go.Abs.Sh

theorem el22 : ElemT Try.prog 22 5 1 1 := ⟨⟨Try.t5, .int .u8 0, Try.underlying22, by kernel_rfl, by kernel_rfl, by kernel_rfl, by kernel_rfl, by decide, by kernel_rfl⟩⟩
theorem sz5 : (Try.prog.info? 5).map (·.size) = some 1 := by kernel_rfl
theorem za40 : ((Try.prog.info? 40).bind (·.zero)).map (·.cells.toList) = some (List.map (Value.int .u32) (List.replicate 16 (0 : Int))) := by kernel_rfl
theorem sz38 : (Try.prog.info? 38).map (·.size) = some 1 := by kernel_rfl
theorem sz40 : (Try.prog.info? 40).map (·.size) = some 16 := by kernel_rfl
theorem zr5 : (Try.prog.info? 5).bind (·.zero) = some (.int .u8 0) := by kernel_rfl

set_option maxHeartbeats 1000000 in
theorem ok_wherrykeep_Twin (l : (List Int)) (r : (List Int)) (h : Sh.wherrykeep_Twin l = some r) : FnOK Try.prog 9 [.fl .shr 1 (List.map (Value.int .u8) l)] (.fl (.own 5) 1 (List.map (Value.int .u8) r)) := by
  unfold Sh.wherrykeep_Twin at h
  refine fn_ok Try.func9 rfl (Nat.le_of_ble_eq_true rfl) rfl rfl fun g0 hn hio => ?_
  refine ht_seq ?_
  refine ht_seqR hn (El := [_, (2, .v (.slice none 0 0))]) (init := [0]) (fin := [0]) (sps := [⟨[], [], [1], [(.slot 2)]⟩]) (es' := [(_, _)]) (by kernel_rfl) rfl rfl
    ⟨st_plain rfl (op_assign _ _ _ _ rfl rfl),
      trivial⟩ ?_
  refine pt_then ?_
  refine ht_seq ?_
  refine ht_seqR hn (El := [_, (3, .v (.slice none 0 0))]) (init := [0]) (fin := [0, 1]) (sps := [⟨[], [], [1], [(.slot 3)]⟩]) (es' := [(_, _), (3, .v (.slice none 0 0))]) (by kernel_rfl) rfl rfl
    ⟨st_plain rfl (op_assign _ _ _ _ rfl rfl),
      trivial⟩ ?_
  refine pt_then ?_
  refine ht_seq ?_
  obtain ⟨v1, hv1, h⟩ := bind_some h
  refine ht_seqR hn (El := [_, _, (4, .v (.slice none 0 0)), (5, .fl .shr 1 (List.map (Value.int .u8) l)), (6, .fl (.own 5) 1 (List.map (Value.int .u8) v1)), (2, .fl (.own 5) 1 (List.map (Value.int .u8) v1))]) (init := [0, 1]) (fin := [5]) (sps := [⟨[1], [], [2], [(.slot 4)]⟩, ⟨[0], [], [3], [(.slot 5)]⟩, ⟨[2, 3], [], [4], [(.slot 6)]⟩, ⟨[], [4], [5], [(.slot 2)]⟩]) (es' := [(2, .fl (.own 5) 1 (List.map (Value.int .u8) v1))]) (by kernel_rfl) rfl rfl
    ⟨st_plain rfl (op_move _ _ _ _ rfl rfl),
      st_plain rfl (op_move _ _ _ _ rfl rfl),
      st_plain rfl (op_app_nil _ _ _ _ el22 rfl rfl (map_len _) hv1 (congrArg (List.map _) (app_nil_eq hv1))),
      st_plain rfl (op_assign_take _ _ _ _ rfl),
      trivial⟩ ?_
  refine pt_then ?_
  refine ht_ret ?_
  obtain rfl := Option.some.inj h
  exact pt_ret hio rfl (.tmp _ _ .nil) rfl rfl

set_option maxHeartbeats 1000000 in
theorem ok_sums_table (divisor : Int) (r : (List Int)) (h : Sh.sums_table divisor = some r) : FnOK Try.prog 21 [.v (.int .u32 divisor)] (.v (.agg (List.map (Value.int .u32) r).toArray)) := by
  unfold Sh.sums_table at h
  refine fn_ok Try.func21 rfl (Nat.le_of_ble_eq_true rfl) rfl rfl fun g0 hn hio => ?_
  refine ht_seq ?_
  refine ht_seqR hn (El := [_, (2, .arr 40 (List.map (Value.int .u32) ((List.replicate 16 (0 : Int)))))]) (init := [0]) (fin := [0, 1]) (sps := [⟨[], [], [1], [(.slot 2)]⟩]) (es' := [(_, _), (2, .arr 40 (List.map (Value.int .u32) ((List.replicate 16 (0 : Int)))))]) (by kernel_rfl) rfl rfl
    ⟨st_plain rfl (op_alloc_arr _ za40),
      trivial⟩ ?_
  refine pt_then ?_
  refine ht_seq ?_
  refine ht_seqR hn (El := [_, _, (3, .arr 40 (List.map (Value.int .u32) ((List.replicate 16 (0 : Int)))))]) (init := [0, 1]) (fin := [0, 1, 2]) (sps := [⟨[], [], [2], [(.slot 3)]⟩]) (es' := [(_, _), (_, _), (3, .arr 40 (List.map (Value.int .u32) ((List.replicate 16 (0 : Int)))))]) (by kernel_rfl) rfl rfl
    ⟨st_plain rfl (op_alloc_arr _ za40),
      trivial⟩ ?_
  refine pt_then ?_
  refine ht_seq ?_
  refine ht_seq ?_
  refine ht_seqR hn (El := [_, _, _, (7, .v (.int .i64 0))]) (init := [0, 1, 2]) (fin := [0, 1, 2, 3]) (sps := [⟨[], [], [3], [(.slot 7)]⟩]) (es' := [(_, _), (_, _), (_, _), (7, .v (.int .i64 0))]) (by kernel_rfl) rfl rfl
    ⟨st_plain rfl (op_move _ _ _ _ rfl rfl),
      trivial⟩ ?_
  refine pt_then ?_
  refine ht_loopS h (fun ((s91, s92) : (List Int) × Int) => [(0, .v (.int .u32 divisor)), (2, .arr 40 (List.map (Value.int .u32) ((List.replicate 16 (0 : Int))))), (3, .arr 40 (List.map (Value.int .u32) s91)), (7, .v (.int .i64 s92))]) (fun (s133 : (List Int)) => [(2, .arr 40 (List.map (Value.int .u32) ((List.replicate 16 (0 : Int))))), (3, .arr 40 (List.map (Value.int .u32) s133))]) ?_ ?_
  · rintro s133 h
    refine pt_then ?_
    refine ht_seq ?_
    obtain ⟨v180, hv180, h⟩ := bind_some h
    obtain ⟨v181, hv181, h⟩ := bind_some h
    obtain ⟨v182, hv182, h⟩ := bind_some h
    refine ht_seqR hn (El := [_, _, (28, .v (.agg (List.map (Value.int .u32) s133).toArray)), (2, .arr 40 (List.map (Value.int .u32) s133))]) (init := [0, 1]) (fin := [3]) (sps := [⟨[1], [], [2], [(.slot 28)]⟩, ⟨[2], [0], [3], []⟩]) (es' := [(2, .arr 40 (List.map (Value.int .u32) s133))]) (by kernel_rfl) rfl rfl
      ⟨st_plain rfl (op_loadA_arr _ _ _ _ Try.underlying40 rfl (sz40.trans (congrArg some (ln_len hv180))) rfl rfl),
        st_plain rfl (op_storeA_arr _ _ _ _ (sz40.trans (congrArg some (ln_len hv182))) rfl rfl (ln_ones (fun _ => rfl) _) ((ln_len (f := Value.int .u32) hv181).symm.trans (ln_len (f := Value.int .u32) hv182))),
        trivial⟩ ?_
    refine pt_then ?_
    refine ht_ret ?_
    obtain ⟨v183, hv183, h⟩ := bind_some h
    obtain rfl := Option.some.inj h
    exact pt_ret hio rfl (.cellR _ _ _ _ Try.underlying40 rfl (sz40.trans (congrArg some (ln_len hv183))) .nil) rfl rfl
  · rintro u134 hl135 hr136 ⟨s91, s92⟩ rr139 h ho137
    refine ht_seq ?_
    refine ht_seqR hn (El := [_, _, _, _, (8, .v (.bool ((decide (s92 < 16)))))]) (init := [0, 1, 2, 3]) (fin := [0, 1, 2, 3, 4]) (sps := [⟨[3], [], [4], [(.slot 8)]⟩]) (es' := [(_, _), (_, _), (_, _), (_, _), (8, .v (.bool ((decide (s92 < 16)))))]) (by kernel_rfl) rfl rfl
      ⟨st_plain rfl (op_bin _ _ _ _ _ rfl rfl rfl),
        trivial⟩ ?_
    refine pt_then ?_
    refine ht_seq ?_
    refine ht_cond _ rfl (fun hb140 => ?_) (fun hb140 => ?_)
    · have h := cond_t hb140 h
      refine ht_skip ?_
      refine pt_then ?_
      refine ht_seq ?_
      refine ht_block ?_
      refine ht_seq ?_
      refine ht_seqR hn (El := [_, _, _, _, _, (9, .v (.int .i64 s92)), (4, .v (.int .i64 s92))]) (init := [0, 1, 2, 3, 4]) (fin := [0, 1, 2, 3, 6]) (sps := [⟨[3], [], [5], [(.slot 9)]⟩, ⟨[5], [], [6], [(.slot 4)]⟩]) (es' := [(_, _), (_, _), (_, _), (_, _), (4, .v (.int .i64 s92))]) (by kernel_rfl) rfl rfl
        ⟨st_plain rfl (op_move _ _ _ _ rfl rfl),
          st_plain rfl (op_assign _ _ _ _ rfl rfl),
          trivial⟩ ?_
      refine pt_then ?_
      refine ht_seq ?_
      obtain ⟨v2, hv2, h⟩ := bind_some h
      refine ht_seqR hn (El := [_, _, _, _, _, (10, .v (.int .i64 s92)), (11, .v (.int .u32 v2)), (5, .v (.int .u32 v2))]) (init := [0, 1, 2, 3, 4]) (fin := [0, 1, 2, 3, 4, 7]) (sps := [⟨[4], [], [5], [(.slot 10)]⟩, ⟨[5], [], [6], [(.slot 11)]⟩, ⟨[6], [], [7], [(.slot 5)]⟩]) (es' := [(_, _), (_, _), (_, _), (_, _), (_, _), (5, .v (.int .u32 v2))]) (by kernel_rfl) rfl rfl
        ⟨st_plain rfl (op_move _ _ _ _ rfl rfl),
          st_plain rfl ((Option.some.inj hv2) ▸ op_conv _ _ _ Try.underlying3 Try.underlying38 rfl),
          st_plain rfl (op_assign _ _ _ _ rfl rfl),
          trivial⟩ ?_
      refine pt_then ?_
      refine ht_seq ?_
      refine ht_seq ?_
      refine ht_seqR hn (El := [_, _, _, _, _, _, (12, .v (.int .i64 0))]) (init := [0, 1, 2, 3, 4, 5]) (fin := [0, 1, 2, 3, 4, 5, 6]) (sps := [⟨[], [], [6], [(.slot 12)]⟩]) (es' := [(_, _), (_, _), (_, _), (_, _), (_, _), (_, _), (12, .v (.int .i64 0))]) (by kernel_rfl) rfl rfl
        ⟨st_plain rfl (op_move _ _ _ _ rfl rfl),
          trivial⟩ ?_
      refine pt_then ?_
      refine ht_loopS h (fun ((s157, s158) : Int × Int) => [(0, .v (.int .u32 divisor)), (2, .arr 40 (List.map (Value.int .u32) ((List.replicate 16 (0 : Int))))), (3, .arr 40 (List.map (Value.int .u32) s91)), (7, .v (.int .i64 s92)), (4, .v (.int .i64 s92)), (5, .v (.int .u32 s157)), (12, .v (.int .i64 s158))]) (fun (s166 : Int) => [(0, .v (.int .u32 divisor)), (2, .arr 40 (List.map (Value.int .u32) ((List.replicate 16 (0 : Int))))), (3, .arr 40 (List.map (Value.int .u32) s91)), (7, .v (.int .i64 s92)), (4, .v (.int .i64 s92)), (5, .v (.int .u32 s166))]) ?_ ?_
      · rintro s166 h
        refine pt_then ?_
        obtain ⟨v46, hv46, h⟩ := bind_some h
        obtain ⟨v47, hv47, h⟩ := bind_some h
        refine ht_seqR hn (El := [_, _, _, _, _, _, (24, .v (.int .i64 s92)), (25, .v (.int .u32 s166)), (26, .ptr 3 v46), (3, .arr 40 (List.map (Value.int .u32) v47))]) (init := [0, 1, 2, 3, 4, 5]) (fin := [0, 1, 9, 3]) (sps := [⟨[4], [], [6], [(.slot 24)]⟩, ⟨[5], [], [7], [(.slot 25)]⟩, ⟨[2, 6], [], [8], [(.slot 26)]⟩, ⟨[8, 7], [2], [9], []⟩]) (es' := [(_, _), (_, _), (3, .arr 40 (List.map (Value.int .u32) v47)), (_, _)]) (by kernel_rfl) rfl rfl
          ⟨st_plain rfl (op_move _ _ _ _ rfl rfl),
            st_plain rfl (op_move _ _ _ _ rfl rfl),
            st_plain rfl (op_ix_arr _ _ _ _ 16 3 _ Try.underlying40 sz38 rfl rfl (ix_ok hv46).1 (ix_ok hv46).2 (by decide)),
            st_plain rfl (op_store_arr _ _ _ _ _ _ sz38 rfl rfl rfl rfl (set_lt hv47) (set_eq (f := Value.int .u32) hv47)),
            trivial⟩ ?_
        refine pt_inb ?_
        refine pt_then ?_
        obtain ⟨v48, hv48, h⟩ := bind_some h
        refine ht_seqR hn (El := [_, _, _, _, (27, .v (.int .i64 v48)), (7, .v (.int .i64 v48))]) (init := [0, 1, 2, 3]) (fin := [0, 1, 2, 5]) (sps := [⟨[3], [], [4], [(.slot 27)]⟩, ⟨[4], [3], [5], [(.slot 7)]⟩]) (es' := [(_, _), (_, _), (_, _), (7, .v (.int .i64 v48))]) (by kernel_rfl) rfl rfl
          ⟨st_plain rfl (op_bin _ _ _ _ _ rfl rfl (ibind (f := Value.int .i64) (Option.some.inj hv48))),
            st_plain rfl (LOp.drop [_] (op_move _ _ _ _ rfl rfl)),
            trivial⟩ ?_
        exact pt_next _ (Option.some.inj h).symm rfl
      · rintro u167 hl168 hr169 ⟨s157, s158⟩ rr172 h ho170
        refine ht_seq ?_
        refine ht_seqR hn (El := [_, _, _, _, _, _, _, (13, .v (.bool ((decide (s158 < 4)))))]) (init := [0, 1, 2, 3, 4, 5, 6]) (fin := [0, 1, 2, 3, 4, 5, 6, 7]) (sps := [⟨[6], [], [7], [(.slot 13)]⟩]) (es' := [(_, _), (_, _), (_, _), (_, _), (_, _), (_, _), (_, _), (13, .v (.bool ((decide (s158 < 4)))))]) (by kernel_rfl) rfl rfl
          ⟨st_plain rfl (op_bin _ _ _ _ _ rfl rfl rfl),
            trivial⟩ ?_
        refine pt_then ?_
        refine ht_seq ?_
        refine ht_cond _ rfl (fun hb173 => ?_) (fun hb173 => ?_)
        · have h := cond_t hb173 h
          refine ht_skip ?_
          refine pt_then ?_
          refine ht_seq ?_
          refine ht_joinS h (fun (s175 : Int) => [(0, .v (.int .u32 divisor)), (2, .arr 40 (List.map (Value.int .u32) ((List.replicate 16 (0 : Int))))), (3, .arr 40 (List.map (Value.int .u32) s91)), (7, .v (.int .i64 s92)), (4, .v (.int .i64 s92)), (12, .v (.int .i64 s158)), (5, .v (.int .u32 s175))]) ?_ ?_
          · rintro s175 h
            refine pt_then ?_
            obtain ⟨v13, hv13, h⟩ := bind_some h
            refine ht_seqR hn (El := [_, _, _, _, _, _, _, (23, .v (.int .i64 v13)), (12, .v (.int .i64 v13))]) (init := [0, 1, 2, 3, 4, 5, 6]) (fin := [0, 1, 2, 3, 4, 6, 8]) (sps := [⟨[5], [], [7], [(.slot 23)]⟩, ⟨[7], [5], [8], [(.slot 12)]⟩]) (es' := [(_, _), (_, _), (_, _), (_, _), (_, _), (_, _), (12, .v (.int .i64 v13))]) (by kernel_rfl) rfl rfl
              ⟨st_plain rfl (op_bin _ _ _ _ _ rfl rfl (ibind (f := Value.int .i64) (Option.some.inj hv13))),
                st_plain rfl (LOp.drop [_] (op_move _ _ _ _ rfl rfl)),
                trivial⟩ ?_
            exact pt_next _ (Option.some.inj h).symm rfl
          · intro u176 h hl177 hr178
            refine ht_block ?_
            refine ht_seq ?_
            obtain ⟨v4, hv4, h⟩ := bind_some h
            refine ht_seqR hn (El := [_, _, _, _, _, _, _, _, (14, .v (.int .u32 s157)), (15, .v (.int .u32 v4)), (6, .v (.int .u32 v4))]) (init := [0, 1, 2, 3, 4, 5, 6, 7]) (fin := [0, 1, 2, 3, 4, 5, 6, 10]) (sps := [⟨[5], [], [8], [(.slot 14)]⟩, ⟨[8], [], [9], [(.slot 15)]⟩, ⟨[9], [], [10], [(.slot 6)]⟩]) (es' := [(_, _), (_, _), (_, _), (_, _), (_, _), (_, _), (_, _), (6, .v (.int .u32 v4))]) (by kernel_rfl) rfl rfl
              ⟨st_plain rfl (op_move _ _ _ _ rfl rfl),
                st_plain rfl (op_bin _ _ _ _ _ rfl rfl (ibind (f := Value.int .u32) (Option.some.inj hv4))),
                st_plain rfl (op_assign _ _ _ _ rfl rfl),
                trivial⟩ ?_
            refine pt_then ?_
            refine ht_seq ?_
            obtain ⟨v5, hv5, h⟩ := bind_some h
            refine ht_seqR hn (El := [_, _, _, _, _, _, _, _, (16, .v (.int .u32 s157)), (17, .v (.int .u32 v5)), (5, .v (.int .u32 v5))]) (init := [0, 1, 2, 3, 4, 5, 6, 7]) (fin := [0, 1, 2, 3, 4, 6, 7, 10]) (sps := [⟨[5], [], [8], [(.slot 16)]⟩, ⟨[8], [], [9], [(.slot 17)]⟩, ⟨[9], [5], [10], [(.slot 5)]⟩]) (es' := [(_, _), (_, _), (_, _), (_, _), (_, _), (_, _), (_, _), (5, .v (.int .u32 v5))]) (by kernel_rfl) rfl rfl
              ⟨st_plain rfl (op_move _ _ _ _ rfl rfl),
                st_plain rfl (op_bin _ _ _ _ _ rfl rfl (shr_ok hv5)),
                st_plain rfl (LOp.drop [_] (op_assign _ _ _ _ rfl rfl)),
                trivial⟩ ?_
            refine pt_then ?_
            refine ht_seq ?_
            refine ht_seqR hn (El := [_, _, _, _, _, _, _, _, (18, .v (.int .u32 v4)), (19, .v (.bool (v4 == 1)))]) (init := [0, 1, 2, 3, 4, 5, 6, 7]) (fin := [0, 1, 2, 3, 4, 5, 7, 9]) (sps := [⟨[6], [], [8], [(.slot 18)]⟩, ⟨[8], [], [9], [(.slot 19)]⟩]) (es' := [(_, _), (_, _), (_, _), (_, _), (_, _), (_, _), (_, _), (19, .v (.bool (v4 == 1)))]) (by kernel_rfl) rfl rfl
              ⟨st_plain rfl (op_move _ _ _ _ rfl rfl),
                st_plain rfl (op_bin _ _ _ _ _ rfl rfl rfl),
                trivial⟩ ?_
            refine pt_then ?_
            refine ht_cond _ rfl (fun hb179 => ?_) (fun hb179 => ?_)
            · have h := cond_t hb179 h
              obtain ⟨v7, hv7, h⟩ := bind_some h
              refine ht_seqR hn (El := [_, _, _, _, _, _, _, _, (20, .v (.int .u32 v5)), (21, .v (.int .u32 divisor)), (22, .v (.int .u32 v7)), (5, .v (.int .u32 v7))]) (init := [0, 1, 2, 3, 4, 5, 6, 7]) (fin := [0, 1, 2, 3, 4, 5, 11]) (sps := [⟨[6], [], [8], [(.slot 20)]⟩, ⟨[0], [], [9], [(.slot 21)]⟩, ⟨[8, 9], [], [10], [(.slot 22)]⟩, ⟨[10], [6], [11], [(.slot 5)]⟩]) (es' := [(_, _), (_, _), (_, _), (_, _), (_, _), (_, _), (5, .v (.int .u32 v7))]) (by kernel_rfl) rfl rfl
                ⟨st_plain rfl (op_move _ _ _ _ rfl rfl),
                  st_plain rfl (op_move _ _ _ _ rfl rfl),
                  st_plain rfl (op_bin _ _ _ _ _ rfl rfl (ibind (f := Value.int .u32) (Option.some.inj hv7))),
                  st_plain rfl (LOp.drop [_] (op_assign _ _ _ _ rfl rfl)),
                  trivial⟩ ?_
              refine pt_inb ?_
              exact hl177 _ (Option.some.inj h).symm
            · have h := cond_f hb179 h
              refine ht_skip ?_
              refine pt_inb ?_
              refine pt_pick [0, 1, 2, 3, 4, 5, 6] (by kernel_rfl) (es' := [(_, _), (_, _), (_, _), (_, _), (_, _), (_, _), (_, _)]) rfl ?_
              exact hl177 _ (Option.some.inj h).symm
        · have h := cond_f hb173 h
          refine ht_exit ?_
          refine pt_x_then ?_
          refine pt_x_then ?_
          refine pt_x_in ?_
          refine pt_pick [0, 1, 2, 3, 4, 5] (by kernel_rfl) (es' := [(_, _), (_, _), (_, _), (_, _), (_, _), (_, _)]) rfl ?_
          exact hl168 _ (ho170 _ (Option.some.inj h).symm).symm
    · have h := cond_f hb140 h
      refine ht_exit ?_
      refine pt_x_then ?_
      refine pt_x_then ?_
      refine pt_x_in ?_
      refine pt_pick [1, 2] (by kernel_rfl) (es' := [(_, _), (_, _)]) rfl ?_
      exact hl135 _ (ho137 _ (Option.some.inj h).symm).symm

set_option maxHeartbeats 1000000 in
theorem ok_sums_sum (b : (List Int)) (width : Int) (divisor : Int) (r : Int) (h : Sh.sums_sum b width divisor = some r) : FnOK Try.prog 19 [.fl .shr 1 (List.map (Value.int .u8) b), .v (.int .i64 width), .v (.int .u32 divisor)] (.v (.int .i64 r)) := by
  unfold Sh.sums_sum at h
  refine fn_ok Try.func19 rfl (Nat.le_of_ble_eq_true rfl) rfl rfl fun g0 hn hio => ?_
  refine ht_seq ?_
  refine ht_seqR hn (El := [_, _, _, (6, .v (.int .i64 0))]) (init := [0, 1, 2]) (fin := [0, 1, 2]) (sps := [⟨[], [], [3], [(.slot 6)]⟩]) (es' := [(_, _), (_, _), (_, _)]) (by kernel_rfl) rfl rfl
    ⟨st_plain rfl (op_assign _ _ _ _ rfl rfl),
      trivial⟩ ?_
  refine pt_then ?_
  refine ht_seq ?_
  obtain ⟨v1, hv1, h⟩ := bind_some h
  obtain ⟨v2, hv2, h⟩ := bind_some h
  obtain ⟨v3, hv3, h⟩ := bind_some h
  refine ht_seqR hn (El := [_, _, _, (12, .v (.int .u32 divisor)), (13, .v (.agg (List.map (Value.int .u32) v1).toArray)), (7, .arr 40 (List.map (Value.int .u32) ((List.replicate 16 (0 : Int))))), (7, .arr 40 (List.map (Value.int .u32) v1))]) (init := [0, 1, 2]) (fin := [0, 1, 6]) (sps := [⟨[2], [], [3], [(.slot 12)]⟩, ⟨[3], [], [4], [(.slot 13)]⟩, ⟨[], [], [5], [(.slot 7)]⟩, ⟨[4], [5], [6], []⟩]) (es' := [(_, _), (_, _), (7, .arr 40 (List.map (Value.int .u32) v1))]) (by kernel_rfl) rfl rfl
    ⟨st_plain rfl (op_move _ _ _ _ rfl rfl),
      st_plain rfl (op_call _ _ 21 _ _ rfl Try.call21 rfl (ok_sums_table divisor _ hv1) rfl rfl),
      st_plain rfl (op_alloc_arr _ za40),
      st_plain rfl (op_storeA_arr _ _ _ _ (sz40.trans (congrArg some (ln_len hv3))) rfl rfl (ln_ones (fun _ => rfl) _) ((ln_len (f := Value.int .u32) hv2).symm.trans (ln_len (f := Value.int .u32) hv3))),
      trivial⟩ ?_
  refine pt_then ?_
  refine ht_seq ?_
  obtain ⟨v4, hv4, h⟩ := bind_some h
  obtain ⟨v5, hv5, h⟩ := bind_some h
  refine ht_seqR hn (El := [_, _, _, (14, .v (.int .i64 width)), (15, .v (.int .u32 v4)), (16, .v (.int .u32 v5)), (8, .v (.int .u32 v5))]) (init := [0, 1, 2]) (fin := [0, 2, 6]) (sps := [⟨[1], [], [3], [(.slot 14)]⟩, ⟨[3], [], [4], [(.slot 15)]⟩, ⟨[4], [], [5], [(.slot 16)]⟩, ⟨[5], [], [6], [(.slot 8)]⟩]) (es' := [(_, _), (_, _), (8, .v (.int .u32 v5))]) (by kernel_rfl) rfl rfl
    ⟨st_plain rfl (op_move _ _ _ _ rfl rfl),
      st_plain rfl (op_bin _ _ _ _ _ rfl rfl (shl_ok hv4)),
      st_plain rfl (op_bin _ _ _ _ _ rfl rfl (ibind (f := Value.int .u32) (Option.some.inj hv5))),
      st_plain rfl (op_assign _ _ _ _ rfl rfl),
      trivial⟩ ?_
  refine pt_then ?_
  refine ht_seq ?_
  refine ht_seqR hn (El := [_, _, _, (17, .v (.int .u32 v5)), (9, .v (.int .u32 v5))]) (init := [0, 1, 2]) (fin := [0, 1, 2, 4]) (sps := [⟨[2], [], [3], [(.slot 17)]⟩, ⟨[3], [], [4], [(.slot 9)]⟩]) (es' := [(_, _), (_, _), (_, _), (9, .v (.int .u32 v5))]) (by kernel_rfl) rfl rfl
    ⟨st_plain rfl (op_move _ _ _ _ rfl rfl),
      st_plain rfl (op_assign _ _ _ _ rfl rfl),
      trivial⟩ ?_
  refine pt_then ?_
  refine ht_seq ?_
  refine ht_seq ?_
  refine ht_seqR hn (El := [_, _, _, _, (18, .fl .shr 1 (List.map (Value.int .u8) b)), (19, .v (.int .i64 (b.length : Int))), (20, .v (.int .i64 0))]) (init := [0, 1, 2, 3]) (fin := [1, 2, 3, 4, 5, 6]) (sps := [⟨[0], [], [4], [(.slot 18)]⟩, ⟨[4], [], [5], [(.slot 19)]⟩, ⟨[], [], [6], [(.slot 20)]⟩]) (es' := [(_, _), (_, _), (_, _), (18, .fl .shr 1 (List.map (Value.int .u8) b)), (19, .v (.int .i64 (b.length : Int))), (20, .v (.int .i64 0))]) (by kernel_rfl) rfl rfl
    ⟨st_plain rfl (op_move _ _ _ _ rfl rfl),
      st_plain rfl (op_len_fl _ _ _ Try.underlying22 rfl (by decide) (map_len _)),
      st_plain rfl (op_move _ _ _ _ rfl rfl),
      trivial⟩ ?_
  refine pt_then ?_
  refine ht_loopS h (fun ((s25, s26) : Int × Int) => [(7, .arr 40 (List.map (Value.int .u32) v1)), (8, .v (.int .u32 v5)), (9, .v (.int .u32 s25)), (18, .fl .shr 1 (List.map (Value.int .u8) b)), (19, .v (.int .i64 (b.length : Int))), (20, .v (.int .i64 s26))]) (fun (s28 : Int) => [(8, .v (.int .u32 v5)), (9, .v (.int .u32 s28))]) ?_ ?_
  · rintro s28 h
    refine pt_then ?_
    refine ht_seq ?_
    obtain ⟨v36, hv36, h⟩ := bind_some h
    obtain ⟨v37, hv37, h⟩ := bind_some h
    refine ht_seqR hn (El := [_, _, (43, .v (.int .u32 s28)), (44, .v (.int .u32 v5)), (45, .v (.int .u32 v36)), (46, .v (.int .i64 v37)), (6, .v (.int .i64 v37))]) (init := [0, 1]) (fin := [6]) (sps := [⟨[1], [], [2], [(.slot 43)]⟩, ⟨[0], [], [3], [(.slot 44)]⟩, ⟨[2, 3], [], [4], [(.slot 45)]⟩, ⟨[4], [], [5], [(.slot 46)]⟩, ⟨[5], [], [6], [(.slot 6)]⟩]) (es' := [(6, .v (.int .i64 v37))]) (by kernel_rfl) rfl rfl
      ⟨st_plain rfl (op_move _ _ _ _ rfl rfl),
        st_plain rfl (op_move _ _ _ _ rfl rfl),
        st_plain rfl (op_bin _ _ _ _ _ rfl rfl (ibind (f := Value.int .u32) (Option.some.inj hv36))),
        st_plain rfl ((Option.some.inj hv37) ▸ op_conv _ _ _ Try.underlying38 Try.underlying3 rfl),
        st_plain rfl (op_assign _ _ _ _ rfl rfl),
        trivial⟩ ?_
    refine pt_then ?_
    refine ht_ret ?_
    obtain rfl := Option.some.inj h
    exact pt_ret hio rfl (.tmp _ _ .nil) rfl rfl
  · rintro u29 hl30 hr31 ⟨s25, s26⟩ rr34 h ho32
    refine ht_seq ?_
    refine ht_seqR hn (El := [_, _, _, _, _, _, (21, .v (.bool ((decide (s26 < (b.length : Int))))))]) (init := [0, 1, 2, 3, 4, 5]) (fin := [0, 1, 2, 3, 4, 5, 6]) (sps := [⟨[5, 4], [], [6], [(.slot 21)]⟩]) (es' := [(_, _), (_, _), (_, _), (_, _), (_, _), (_, _), (21, .v (.bool ((decide (s26 < (b.length : Int))))))]) (by kernel_rfl) rfl rfl
      ⟨st_plain rfl (op_bin _ _ _ _ _ rfl rfl rfl),
        trivial⟩ ?_
    refine pt_then ?_
    refine ht_seq ?_
    refine ht_cond _ rfl (fun hb35 => ?_) (fun hb35 => ?_)
    · have h := cond_t hb35 h
      refine ht_skip ?_
      refine pt_then ?_
      refine ht_seq ?_
      refine ht_block ?_
      refine ht_seq ?_
      obtain ⟨v7, hv7, h⟩ := bind_some h
      obtain ⟨v8, hv8, h⟩ := bind_some h
      refine ht_seqR hn (El := [_, _, _, _, _, _, _, (22, .eref (.slot 18) (v7 * 1)), (23, .v (.int .u8 v8)), (11, .v (.int .u8 v8))]) (init := [0, 1, 2, 3, 4, 5, 6]) (fin := [0, 1, 2, 3, 4, 5, 9]) (sps := [⟨[3, 5], [], [7], [(.slot 22)]⟩, ⟨[7, 3], [], [8], [(.slot 23)]⟩, ⟨[8], [], [9], [(.slot 11)]⟩]) (es' := [(_, _), (_, _), (_, _), (_, _), (_, _), (_, _), (11, .v (.int .u8 v8))]) (by kernel_rfl) rfl rfl
        ⟨st_plain rfl (op_ix _ _ _ _ _ _ _ _ Try.underlying22 sz5 (by decide) rfl rfl rfl (ix_ok hv7).1 (map_lt (ix_ok hv7).2) rfl),
          st_plain rfl (op_load_e _ _ _ _ _ _ Try.underlying5 rfl rfl rfl (map_get hv8)),
          st_plain rfl (op_assign _ _ _ _ rfl rfl),
          trivial⟩ ?_
      refine pt_then ?_
      refine ht_seq ?_
      obtain ⟨v9, hv9, h⟩ := bind_some h
      obtain ⟨v10, hv10, h⟩ := bind_some h
      refine ht_seqR hn (El := [_, _, _, _, _, _, _, (24, .v (.int .u32 s25)), (25, .v (.int .u8 v8)), (26, .v (.int .u32 v9)), (27, .v (.int .u32 v10)), (9, .v (.int .u32 v10))]) (init := [0, 1, 2, 3, 4, 5, 6]) (fin := [0, 1, 3, 4, 5, 11]) (sps := [⟨[2], [], [7], [(.slot 24)]⟩, ⟨[6], [], [8], [(.slot 25)]⟩, ⟨[8], [], [9], [(.slot 26)]⟩, ⟨[7, 9], [], [10], [(.slot 27)]⟩, ⟨[10], [2], [11], [(.slot 9)]⟩]) (es' := [(_, _), (_, _), (_, _), (_, _), (_, _), (9, .v (.int .u32 v10))]) (by kernel_rfl) rfl rfl
        ⟨st_plain rfl (op_move _ _ _ _ rfl rfl),
          st_plain rfl (op_move _ _ _ _ rfl rfl),
          st_plain rfl ((Option.some.inj hv9) ▸ op_conv _ _ _ Try.underlying5 Try.underlying38 rfl),
          st_plain rfl (op_bin _ _ _ _ _ rfl rfl (ibind (f := Value.int .u32) (Option.some.inj hv10))),
          st_plain rfl (LOp.drop [_] (op_assign _ _ _ _ rfl rfl)),
          trivial⟩ ?_
      refine pt_then ?_
      refine ht_seq ?_
      obtain ⟨v11, hv11, h⟩ := bind_some h
      obtain ⟨v12, hv12, h⟩ := bind_some h
      obtain ⟨v13, hv13, h⟩ := bind_some h
      obtain ⟨v14, hv14, h⟩ := bind_some h
      obtain ⟨v15, hv15, h⟩ := bind_some h
      refine ht_seqR hn (El := [_, _, _, _, _, _, (28, .v (.int .u32 v10)), (29, .v (.int .u32 v11)), (30, .v (.int .u32 v10)), (31, .v (.int .u32 v12)), (32, .ptr 7 v13), (33, .v (.int .u32 v14)), (34, .v (.int .u32 v15)), (9, .v (.int .u32 v15))]) (init := [0, 1, 2, 3, 4, 5]) (fin := [0, 1, 2, 3, 4, 13]) (sps := [⟨[5], [], [6], [(.slot 28)]⟩, ⟨[6], [], [7], [(.slot 29)]⟩, ⟨[5], [], [8], [(.slot 30)]⟩, ⟨[8], [], [9], [(.slot 31)]⟩, ⟨[0, 9], [], [10], [(.slot 32)]⟩, ⟨[10, 0], [], [11], [(.slot 33)]⟩, ⟨[7, 11], [], [12], [(.slot 34)]⟩, ⟨[12], [5], [13], [(.slot 9)]⟩]) (es' := [(_, _), (_, _), (_, _), (_, _), (_, _), (9, .v (.int .u32 v15))]) (by kernel_rfl) rfl rfl
        ⟨st_plain rfl (op_move _ _ _ _ rfl rfl),
          st_plain rfl (op_bin _ _ _ _ _ rfl rfl (shr_ok hv11)),
          st_plain rfl (op_move _ _ _ _ rfl rfl),
          st_plain rfl (op_bin _ _ _ _ _ rfl rfl (rem_ok hv12)),
          st_plain rfl (op_ix_arr _ _ _ _ 16 7 _ Try.underlying40 sz38 rfl rfl (ix_ok hv13).1 (ix_ok hv13).2 (by decide)),
          st_plain rfl (op_load_arr _ _ _ _ _ _ Try.underlying38 rfl rfl rfl (map_get1 hv14)),
          st_plain rfl (op_bin _ _ _ _ _ rfl rfl (ibind (f := Value.int .u32) (Option.some.inj hv15))),
          st_plain rfl (LOp.drop [_] (op_assign _ _ _ _ rfl rfl)),
          trivial⟩ ?_
      refine pt_then ?_
      obtain ⟨v16, hv16, h⟩ := bind_some h
      obtain ⟨v17, hv17, h⟩ := bind_some h
      obtain ⟨v18, hv18, h⟩ := bind_some h
      obtain ⟨v19, hv19, h⟩ := bind_some h
      obtain ⟨v20, hv20, h⟩ := bind_some h
      refine ht_seqR hn (El := [_, _, _, _, _, _, (35, .v (.int .u32 v15)), (36, .v (.int .u32 v16)), (37, .v (.int .u32 v15)), (38, .v (.int .u32 v17)), (39, .ptr 7 v18), (40, .v (.int .u32 v19)), (41, .v (.int .u32 v20)), (9, .v (.int .u32 v20))]) (init := [0, 1, 2, 3, 4, 5]) (fin := [0, 1, 2, 3, 4, 13]) (sps := [⟨[5], [], [6], [(.slot 35)]⟩, ⟨[6], [], [7], [(.slot 36)]⟩, ⟨[5], [], [8], [(.slot 37)]⟩, ⟨[8], [], [9], [(.slot 38)]⟩, ⟨[0, 9], [], [10], [(.slot 39)]⟩, ⟨[10, 0], [], [11], [(.slot 40)]⟩, ⟨[7, 11], [], [12], [(.slot 41)]⟩, ⟨[12], [5], [13], [(.slot 9)]⟩]) (es' := [(_, _), (_, _), (_, _), (_, _), (_, _), (9, .v (.int .u32 v20))]) (by kernel_rfl) rfl rfl
        ⟨st_plain rfl (op_move _ _ _ _ rfl rfl),
          st_plain rfl (op_bin _ _ _ _ _ rfl rfl (shr_ok hv16)),
          st_plain rfl (op_move _ _ _ _ rfl rfl),
          st_plain rfl (op_bin _ _ _ _ _ rfl rfl (rem_ok hv17)),
          st_plain rfl (op_ix_arr _ _ _ _ 16 7 _ Try.underlying40 sz38 rfl rfl (ix_ok hv18).1 (ix_ok hv18).2 (by decide)),
          st_plain rfl (op_load_arr _ _ _ _ _ _ Try.underlying38 rfl rfl rfl (map_get1 hv19)),
          st_plain rfl (op_bin _ _ _ _ _ rfl rfl (ibind (f := Value.int .u32) (Option.some.inj hv20))),
          st_plain rfl (LOp.drop [_] (op_assign _ _ _ _ rfl rfl)),
          trivial⟩ ?_
      refine pt_inb ?_
      refine pt_then ?_
      obtain ⟨v21, hv21, h⟩ := bind_some h
      refine ht_seqR hn (El := [_, _, _, _, _, _, (42, .v (.int .i64 v21)), (20, .v (.int .i64 v21))]) (init := [0, 1, 2, 3, 4, 5]) (fin := [0, 1, 2, 3, 5, 7]) (sps := [⟨[4], [], [6], [(.slot 42)]⟩, ⟨[6], [4], [7], [(.slot 20)]⟩]) (es' := [(_, _), (_, _), (_, _), (_, _), (_, _), (20, .v (.int .i64 v21))]) (by kernel_rfl) rfl rfl
        ⟨st_plain rfl (op_bin _ _ _ _ _ rfl rfl (ibind (f := Value.int .i64) (Option.some.inj hv21))),
          st_plain rfl (LOp.drop [_] (op_move _ _ _ _ rfl rfl)),
          trivial⟩ ?_
      refine pt_pick [0, 1, 4, 2, 3, 5] (by kernel_rfl) (es' := [(_, _), (_, _), (_, _), (_, _), (_, _), (_, _)]) rfl ?_
      exact pt_next _ (Option.some.inj h).symm rfl
    · have h := cond_f hb35 h
      refine ht_exit ?_
      refine pt_x_then ?_
      refine pt_x_then ?_
      refine pt_x_in ?_
      refine pt_pick [1, 2] (by kernel_rfl) (es' := [(_, _), (_, _)]) rfl ?_
      exact hl30 _ (ho32 _ (Option.some.inj h).symm).symm

set_option maxHeartbeats 1000000 in
theorem ok_sums_Long (b : (List Int)) (r : Int) (h : Sh.sums_Long b = some r) : FnOK Try.prog 16 [.fl .shr 1 (List.map (Value.int .u8) b)] (.v (.int .i64 r)) := by
  unfold Sh.sums_Long at h
  refine fn_ok Try.func16 rfl (Nat.le_of_ble_eq_true rfl) rfl rfl fun g0 hn hio => ?_
  refine ht_seq ?_
  refine ht_seqR hn (El := [_, (2, .v (.int .i64 0))]) (init := [0]) (fin := [0]) (sps := [⟨[], [], [1], [(.slot 2)]⟩]) (es' := [(_, _)]) (by kernel_rfl) rfl rfl
    ⟨st_plain rfl (op_assign _ _ _ _ rfl rfl),
      trivial⟩ ?_
  refine pt_then ?_
  refine ht_seq ?_
  obtain ⟨v1, hv1, h⟩ := bind_some h
  refine ht_seqR hn (El := [_, (3, .fl .shr 1 (List.map (Value.int .u8) b)), (4, .v (.int .i64 v1)), (2, .v (.int .i64 v1))]) (init := [0]) (fin := [3]) (sps := [⟨[0], [], [1], [(.slot 3)]⟩, ⟨[1], [], [2], [(.slot 4)]⟩, ⟨[2], [], [3], [(.slot 2)]⟩]) (es' := [(2, .v (.int .i64 v1))]) (by kernel_rfl) rfl rfl
    ⟨st_plain rfl (op_move _ _ _ _ rfl rfl),
      st_plain rfl (op_call _ _ 19 _ _ rfl Try.call19 rfl (ok_sums_sum b 32 3988292384 _ hv1) rfl rfl),
      st_plain rfl (op_assign _ _ _ _ rfl rfl),
      trivial⟩ ?_
  refine pt_then ?_
  refine ht_ret ?_
  obtain rfl := Option.some.inj h
  exact pt_ret hio rfl (.tmp _ _ .nil) rfl rfl

set_option maxHeartbeats 1000000 in
theorem ok_sums_Short (b : (List Int)) (r : Int) (h : Sh.sums_Short b = some r) : FnOK Try.prog 14 [.fl .shr 1 (List.map (Value.int .u8) b)] (.v (.int .i64 r)) := by
  unfold Sh.sums_Short at h
  refine fn_ok Try.func14 rfl (Nat.le_of_ble_eq_true rfl) rfl rfl fun g0 hn hio => ?_
  refine ht_seq ?_
  refine ht_seqR hn (El := [_, (2, .v (.int .i64 0))]) (init := [0]) (fin := [0]) (sps := [⟨[], [], [1], [(.slot 2)]⟩]) (es' := [(_, _)]) (by kernel_rfl) rfl rfl
    ⟨st_plain rfl (op_assign _ _ _ _ rfl rfl),
      trivial⟩ ?_
  refine pt_then ?_
  refine ht_seq ?_
  obtain ⟨v1, hv1, h⟩ := bind_some h
  refine ht_seqR hn (El := [_, (3, .fl .shr 1 (List.map (Value.int .u8) b)), (4, .v (.int .i64 v1)), (2, .v (.int .i64 v1))]) (init := [0]) (fin := [3]) (sps := [⟨[0], [], [1], [(.slot 3)]⟩, ⟨[1], [], [2], [(.slot 4)]⟩, ⟨[2], [], [3], [(.slot 2)]⟩]) (es' := [(2, .v (.int .i64 v1))]) (by kernel_rfl) rfl rfl
    ⟨st_plain rfl (op_move _ _ _ _ rfl rfl),
      st_plain rfl (op_call _ _ 19 _ _ rfl Try.call19 rfl (ok_sums_sum b 16 33800 _ hv1) rfl rfl),
      st_plain rfl (op_assign _ _ _ _ rfl rfl),
      trivial⟩ ?_
  refine pt_then ?_
  refine ht_ret ?_
  obtain rfl := Option.some.inj h
  exact pt_ret hio rfl (.tmp _ _ .nil) rfl rfl

set_option maxHeartbeats 1000000 in
theorem ok_wherrylaw08_wakes (r : Bool) (h : Sh.wherrylaw08_wakes  = some r) : FnOK Try.prog 12 [] (.v (.bool r)) := by
  unfold Sh.wherrylaw08_wakes at h
  refine fn_ok Try.func12 rfl (Nat.le_of_ble_eq_true rfl) rfl rfl fun g0 hn hio => ?_
  refine ht_seq ?_
  refine ht_seqR hn (El := [(0, .v (.bool false))]) (init := []) (fin := []) (sps := [⟨[], [], [0], [(.slot 0)]⟩]) (es' := []) (by kernel_rfl) rfl rfl
    ⟨st_plain rfl (op_assign _ _ _ _ rfl rfl),
      trivial⟩ ?_
  refine pt_then ?_
  refine ht_seq ?_
  refine ht_seqR hn (El := [(2, .fl (.own 5) 1 (List.map (Value.int .u8) [49, 50, 51, 52, 53, 54, 55, 56, 57])), (3, .fl .ro 1 (List.map (Value.int .u8) [49, 50, 51, 52, 53, 54, 55, 56, 57])), (1, .fl .ro 1 (List.map (Value.int .u8) [49, 50, 51, 52, 53, 54, 55, 56, 57]))]) (init := []) (fin := [2]) (sps := [⟨[], [], [0], [(.slot 2)]⟩, ⟨[], [0], [1], [(.slot 3)]⟩, ⟨[1], [], [2], [(.slot 1)]⟩]) (es' := [(1, .fl .ro 1 (List.map (Value.int .u8) [49, 50, 51, 52, 53, 54, 55, 56, 57]))]) (by kernel_rfl) rfl rfl
    ⟨st_plain rfl (op_buildSlice _ _ 1 (.int .u8 0) (List.map (Value.int .u8) [49, 50, 51, 52, 53, 54, 55, 56, 57]) [(0, .int .u8 49), (1, .int .u8 50), (2, .int .u8 51), (3, .int .u8 52), (4, .int .u8 53), (5, .int .u8 54), (6, .int .u8 55), (7, .int .u8 56), (8, .int .u8 57)] Try.underlying22 sz5 zr5 (fun _ V w o a hv hes => by simp only [List.map_toArray, List.map_cons, List.map_nil]; try rfl) (litfill (by simp [Instr.fill, Value.cells]; rfl) (by simp [List.range, List.range.loop])) (by simp [Value.oneCell']) rfl (by decide) (by decide) (by decide)),
      st_plain rfl (op_conv_mark _ _ _ Try.underlying22 Try.underlying5 (by intro h; cases h)),
      st_plain rfl (op_assign _ _ _ _ rfl rfl),
      trivial⟩ ?_
  refine pt_then ?_
  refine ht_seq ?_
  refine ht_joinS h (fun (s4 : Bool) => [(0, .v (.bool s4))]) ?_ ?_
  · rintro s4 h
    refine pt_then ?_
    refine ht_ret ?_
    obtain rfl := Option.some.inj h
    exact pt_ret hio rfl (.tmp _ _ .nil) rfl rfl
  · intro u5 h hl6 hr7
    obtain ⟨v1, hv1, h⟩ := bind_some h
    refine cond_some h (fun hg2_3 h => ?_) (fun hg2_3 h => ?_)
    · obtain ⟨v2, hv2, h⟩ := bind_some h
      refine cond_some h (fun hg2_8 h => ?_) (fun hg2_8 h => ?_)
      · obtain ⟨v3, hv3, h⟩ := bind_some h
        refine ht_seqR hn (El := [_, (4, .fl .ro 1 (List.map (Value.int .u8) [49, 50, 51, 52, 53, 54, 55, 56, 57])), (5, .v (.int .i64 v1)), (6, .v (.bool (v1 == 36974))), (7, .v (.bool true)), (8, .fl .ro 1 (List.map (Value.int .u8) [49, 50, 51, 52, 53, 54, 55, 56, 57])), (9, .v (.int .i64 v2)), (10, .v (.bool (v2 == 3421780262))), (11, .v (.bool (v2 == 3421780262))), (12, .v (.bool true)), (13, .v (.int .i64 v3)), (14, .v (.bool (v3 == 0))), (15, .v (.bool (v3 == 0))), (0, .v (.bool (v3 == 0)))]) (init := [0]) (fin := [13]) (sps := [⟨[0], [], [1], [(.slot 4)]⟩, ⟨[1], [], [2], [(.slot 5)]⟩, ⟨[2], [], [3], [(.slot 6)]⟩, ⟨[3], [], [4], [(.slot 7)]⟩, ⟨[4, 0], [], [5], [(.slot 8)]⟩, ⟨[4, 5], [], [6], [(.slot 9)]⟩, ⟨[4, 6], [], [7], [(.slot 10)]⟩, ⟨[4, 7], [], [8], [(.slot 11)]⟩, ⟨[8], [], [9], [(.slot 12)]⟩, ⟨[9], [], [10], [(.slot 13)]⟩, ⟨[9, 10], [], [11], [(.slot 14)]⟩, ⟨[9, 11], [], [12], [(.slot 15)]⟩, ⟨[12], [], [13], [(.slot 0)]⟩]) (es' := [(0, .v (.bool (v3 == 0)))]) (by kernel_rfl) rfl rfl
          ⟨st_plain rfl (op_move _ _ _ _ rfl rfl),
            st_plain rfl (op_call _ _ 14 _ _ rfl Try.call14 rfl (ok_sums_Short [49, 50, 51, 52, 53, 54, 55, 56, 57] _ hv1) rfl rfl),
            st_plain rfl (op_bin _ _ _ _ _ rfl rfl rfl),
            st_plain rfl (op_move _ _ _ _ (congrArg (fun b => AV.v (Value.bool b)) hg2_3) rfl),
            st_run 3 7 true rfl rfl rfl (List.Mem.head _) (op_move _ _ _ _ rfl rfl),
            st_run 3 7 true rfl rfl rfl (List.Mem.head _) (op_call _ _ 16 _ _ rfl Try.call16 rfl (ok_sums_Long [49, 50, 51, 52, 53, 54, 55, 56, 57] _ hv2) rfl rfl),
            st_run 3 7 true rfl rfl rfl (List.Mem.head _) (op_bin _ _ _ _ _ rfl rfl rfl),
            st_plain rfl (op_pick _ _ true _ rfl rfl),
            st_plain rfl (op_move _ _ _ _ (congrArg (fun b => AV.v (Value.bool b)) hg2_8) rfl),
            st_run 8 12 true rfl rfl rfl (List.Mem.head _) (op_call _ _ 14 _ _ rfl Try.call14 rfl ((ok_sums_Short [] _ hv3).args (subs_cons (sub_nil_shr 1) (subs_nil))) rfl rfl),
            st_run 8 12 true rfl rfl rfl (List.Mem.head _) (op_bin _ _ _ _ _ rfl rfl rfl),
            st_plain rfl (op_pick _ _ true _ rfl rfl),
            st_plain rfl (op_assign _ _ _ _ rfl rfl),
            trivial⟩ ?_
        exact hl6 _ (Option.some.inj h).symm
      · refine ht_seqR hn (El := [_, (4, .fl .ro 1 (List.map (Value.int .u8) [49, 50, 51, 52, 53, 54, 55, 56, 57])), (5, .v (.int .i64 v1)), (6, .v (.bool (v1 == 36974))), (7, .v (.bool true)), (8, .fl .ro 1 (List.map (Value.int .u8) [49, 50, 51, 52, 53, 54, 55, 56, 57])), (9, .v (.int .i64 v2)), (10, .v (.bool (v2 == 3421780262))), (11, .v (.bool (v2 == 3421780262))), (12, .v (.bool false)), (13, .v undef), (14, .v undef), (15, .v (.bool false)), (0, .v (.bool false))]) (init := [0]) (fin := [13]) (sps := [⟨[0], [], [1], [(.slot 4)]⟩, ⟨[1], [], [2], [(.slot 5)]⟩, ⟨[2], [], [3], [(.slot 6)]⟩, ⟨[3], [], [4], [(.slot 7)]⟩, ⟨[4, 0], [], [5], [(.slot 8)]⟩, ⟨[4, 5], [], [6], [(.slot 9)]⟩, ⟨[4, 6], [], [7], [(.slot 10)]⟩, ⟨[4, 7], [], [8], [(.slot 11)]⟩, ⟨[8], [], [9], [(.slot 12)]⟩, ⟨[9], [], [10], [(.slot 13)]⟩, ⟨[9], [], [11], [(.slot 14)]⟩, ⟨[9], [], [12], [(.slot 15)]⟩, ⟨[12], [], [13], [(.slot 0)]⟩]) (es' := [(0, .v (.bool false))]) (by kernel_rfl) rfl rfl
          ⟨st_plain rfl (op_move _ _ _ _ rfl rfl),
            st_plain rfl (op_call _ _ 14 _ _ rfl Try.call14 rfl (ok_sums_Short [49, 50, 51, 52, 53, 54, 55, 56, 57] _ hv1) rfl rfl),
            st_plain rfl (op_bin _ _ _ _ _ rfl rfl rfl),
            st_plain rfl (op_move _ _ _ _ (congrArg (fun b => AV.v (Value.bool b)) hg2_3) rfl),
            st_run 3 7 true rfl rfl rfl (List.Mem.head _) (op_move _ _ _ _ rfl rfl),
            st_run 3 7 true rfl rfl rfl (List.Mem.head _) (op_call _ _ 16 _ _ rfl Try.call16 rfl (ok_sums_Long [49, 50, 51, 52, 53, 54, 55, 56, 57] _ hv2) rfl rfl),
            st_run 3 7 true rfl rfl rfl (List.Mem.head _) (op_bin _ _ _ _ _ rfl rfl rfl),
            st_plain rfl (op_pick _ _ true _ rfl rfl),
            st_plain rfl (op_move _ _ _ _ (congrArg (fun b => AV.v (Value.bool b)) hg2_8) rfl),
            st_skip 8 12 _ true rfl rfl rfl rfl (List.Mem.head _),
            st_skip 8 12 _ true rfl rfl rfl rfl (List.Mem.head _),
            st_plain rfl (op_pick _ _ false _ rfl rfl),
            st_plain rfl (op_assign _ _ _ _ rfl rfl),
            trivial⟩ ?_
        exact hl6 _ (Option.some.inj h).symm
    · refine ht_seqR hn (El := [_, (4, .fl .ro 1 (List.map (Value.int .u8) [49, 50, 51, 52, 53, 54, 55, 56, 57])), (5, .v (.int .i64 v1)), (6, .v (.bool (v1 == 36974))), (7, .v (.bool false)), (8, .v undef), (9, .v undef), (10, .v undef), (11, .v (.bool false)), (12, .v (.bool false)), (13, .v undef), (14, .v undef), (15, .v (.bool false)), (0, .v (.bool false))]) (init := [0]) (fin := [13]) (sps := [⟨[0], [], [1], [(.slot 4)]⟩, ⟨[1], [], [2], [(.slot 5)]⟩, ⟨[2], [], [3], [(.slot 6)]⟩, ⟨[3], [], [4], [(.slot 7)]⟩, ⟨[4], [], [5], [(.slot 8)]⟩, ⟨[4], [], [6], [(.slot 9)]⟩, ⟨[4], [], [7], [(.slot 10)]⟩, ⟨[4], [], [8], [(.slot 11)]⟩, ⟨[8], [], [9], [(.slot 12)]⟩, ⟨[9], [], [10], [(.slot 13)]⟩, ⟨[9], [], [11], [(.slot 14)]⟩, ⟨[9], [], [12], [(.slot 15)]⟩, ⟨[12], [], [13], [(.slot 0)]⟩]) (es' := [(0, .v (.bool false))]) (by kernel_rfl) rfl rfl
        ⟨st_plain rfl (op_move _ _ _ _ rfl rfl),
          st_plain rfl (op_call _ _ 14 _ _ rfl Try.call14 rfl (ok_sums_Short [49, 50, 51, 52, 53, 54, 55, 56, 57] _ hv1) rfl rfl),
          st_plain rfl (op_bin _ _ _ _ _ rfl rfl rfl),
          st_plain rfl (op_move _ _ _ _ (congrArg (fun b => AV.v (Value.bool b)) hg2_3) rfl),
          st_skip 3 7 _ true rfl rfl rfl rfl (List.Mem.head _),
          st_skip 3 7 _ true rfl rfl rfl rfl (List.Mem.head _),
          st_skip 3 7 _ true rfl rfl rfl rfl (List.Mem.head _),
          st_plain rfl (op_pick _ _ false _ rfl rfl),
          st_plain rfl (op_move _ _ _ _ rfl rfl),
          st_skip 8 12 _ true rfl rfl rfl rfl (List.Mem.head _),
          st_skip 8 12 _ true rfl rfl rfl rfl (List.Mem.head _),
          st_plain rfl (op_pick _ _ false _ rfl rfl),
          st_plain rfl (op_assign _ _ _ _ rfl rfl),
          trivial⟩ ?_
      exact hl6 _ (Option.some.inj h).symm

set_option maxHeartbeats 1000000 in
theorem ok_wherrylaw08_SumsBurst (b : (List Int)) (at_ : Int) (n : Int) (wide : Bool) (r : Bool) (h : Sh.wherrylaw08_SumsBurst b at_ n wide = some r) : FnOK Try.prog 4 [.fl .shr 1 (List.map (Value.int .u8) b), .v (.int .i64 at_), .v (.int .i64 n), .v (.bool wide)] (.v (.bool r)) := by
  unfold Sh.wherrylaw08_SumsBurst at h
  refine fn_ok Try.func4 rfl (Nat.le_of_ble_eq_true rfl) rfl rfl fun g0 hn hio => ?_
  refine ht_seq ?_
  refine ht_seqR hn (El := [_, _, _, _, (8, .v (.bool false))]) (init := [0, 1, 2, 3]) (fin := [0, 1, 2, 3]) (sps := [⟨[], [], [4], [(.slot 8)]⟩]) (es' := [(_, _), (_, _), (_, _), (_, _)]) (by kernel_rfl) rfl rfl
    ⟨st_plain rfl (op_assign _ _ _ _ rfl rfl),
      trivial⟩ ?_
  refine pt_then ?_
  refine ht_seq ?_
  refine ht_seq ?_
  refine ht_joinS h (fun (s1 : Bool) => [(0, .fl .shr 1 (List.map (Value.int .u8) b)), (1, .v (.int .i64 at_)), (2, .v (.int .i64 n)), (3, .v (.bool wide)), (19, .v (.bool s1))]) ?_ ?_
  · rintro s1 h
    refine pt_then ?_
    refine ht_cond _ rfl (fun hb5 => ?_) (fun hb5 => ?_)
    · have h := cond_t hb5 h
      refine ht_seq ?_
      refine ht_seqR hn (El := [_, _, _, _, _, (8, .v (.bool true))]) (init := [0, 1, 2, 3, 4]) (fin := [5]) (sps := [⟨[], [], [5], [(.slot 8)]⟩]) (es' := [(8, .v (.bool true))]) (by kernel_rfl) rfl rfl
        ⟨st_plain rfl (op_assign _ _ _ _ rfl rfl),
          trivial⟩ ?_
      refine pt_then ?_
      refine ht_ret ?_
      refine pt_r_then ?_
      obtain rfl := Option.some.inj h
      exact pt_ret hio rfl (.tmp _ _ .nil) rfl rfl
    · have h := cond_f hb5 h
      refine ht_skip ?_
      refine pt_then ?_
      refine ht_seq ?_
      obtain ⟨v6, hv6, h⟩ := bind_some h
      obtain ⟨v7, hv7, h⟩ := bind_some h
      obtain ⟨v8, hv8, h⟩ := bind_some h
      obtain ⟨v9, hv9, h⟩ := bind_some h
      obtain ⟨v10, hv10, h⟩ := bind_some h
      refine ht_seqR hn (El := [_, _, _, _, _, (20, .v (.int .i64 at_)), (21, .v (.int .u64 v6)), (22, .fl .shr 1 (List.map (Value.int .u8) b)), (23, .v (.int .i64 (b.length : Int))), (24, .v (.int .i64 v7)), (25, .v (.int .u64 v8)), (26, .v (.int .u64 v9)), (27, .v (.int .i64 v10)), (1, .v (.int .i64 v10))]) (init := [0, 1, 2, 3, 4]) (fin := [0, 2, 3, 13]) (sps := [⟨[1], [], [5], [(.slot 20)]⟩, ⟨[5], [], [6], [(.slot 21)]⟩, ⟨[0], [], [7], [(.slot 22)]⟩, ⟨[7], [], [8], [(.slot 23)]⟩, ⟨[8], [], [9], [(.slot 24)]⟩, ⟨[9], [], [10], [(.slot 25)]⟩, ⟨[6, 10], [], [11], [(.slot 26)]⟩, ⟨[11], [], [12], [(.slot 27)]⟩, ⟨[12], [1], [13], [(.slot 1)]⟩]) (es' := [(_, _), (_, _), (_, _), (1, .v (.int .i64 v10))]) (by kernel_rfl) rfl rfl
        ⟨st_plain rfl (op_move _ _ _ _ rfl rfl),
          st_plain rfl ((Option.some.inj hv6) ▸ op_conv _ _ _ Try.underlying3 Try.underlying33 rfl),
          st_plain rfl (op_move _ _ _ _ rfl rfl),
          st_plain rfl (op_len_fl _ _ _ Try.underlying22 rfl (by decide) (map_len _)),
          st_plain rfl (op_bin _ _ _ _ _ rfl rfl (ibind (f := Value.int .i64) (Option.some.inj hv7))),
          st_plain rfl ((Option.some.inj hv8) ▸ op_conv _ _ _ Try.underlying3 Try.underlying33 rfl),
          st_plain rfl (op_bin _ _ _ _ _ rfl rfl (rem_ok hv9)),
          st_plain rfl ((Option.some.inj hv10) ▸ op_conv _ _ _ Try.underlying33 Try.underlying3 rfl),
          st_plain rfl (LOp.drop [_] (op_assign _ _ _ _ rfl rfl)),
          trivial⟩ ?_
      refine pt_then ?_
      refine ht_seq ?_
      refine ht_seqR hn (El := [_, _, _, _, (9, .v (.int .i64 16))]) (init := [0, 1, 2, 3]) (fin := [0, 1, 2, 3, 4]) (sps := [⟨[], [], [4], [(.slot 9)]⟩]) (es' := [(_, _), (_, _), (_, _), (_, _), (9, .v (.int .i64 16))]) (by kernel_rfl) rfl rfl
        ⟨st_plain rfl (op_assign _ _ _ _ rfl rfl),
          trivial⟩ ?_
      refine pt_then ?_
      refine ht_seq ?_
      refine ht_joinS h (fun (s12 : Int) => [(0, .fl .shr 1 (List.map (Value.int .u8) b)), (2, .v (.int .i64 n)), (3, .v (.bool wide)), (1, .v (.int .i64 v10)), (9, .v (.int .i64 s12))]) ?_ ?_
      · rintro s12 h
        refine pt_then ?_
        refine ht_seq ?_
        obtain ⟨v17, hv17, h⟩ := bind_some h
        obtain ⟨v18, hv18, h⟩ := bind_some h
        obtain ⟨v19, hv19, h⟩ := bind_some h
        obtain ⟨v20, hv20, h⟩ := bind_some h
        obtain ⟨v21, hv21, h⟩ := bind_some h
        refine ht_seqR hn (El := [_, _, _, _, _, (29, .v (.int .i64 n)), (30, .v (.int .i64 s12)), (31, .v (.int .u64 v17)), (32, .v (.int .i64 v18)), (33, .v (.int .i64 v19)), (34, .v (.int .i64 v20)), (35, .v (.int .i64 v21)), (2, .v (.int .i64 v21))]) (init := [0, 1, 2, 3, 4]) (fin := [0, 2, 3, 4, 12]) (sps := [⟨[1], [], [5], [(.slot 29)]⟩, ⟨[4], [], [6], [(.slot 30)]⟩, ⟨[6], [], [7], [(.slot 31)]⟩, ⟨[7], [], [8], [(.slot 32)]⟩, ⟨[8], [], [9], [(.slot 33)]⟩, ⟨[5, 9], [], [10], [(.slot 34)]⟩, ⟨[10], [], [11], [(.slot 35)]⟩, ⟨[11], [1], [12], [(.slot 2)]⟩]) (es' := [(_, _), (_, _), (_, _), (_, _), (2, .v (.int .i64 v21))]) (by kernel_rfl) rfl rfl
          ⟨st_plain rfl (op_move _ _ _ _ rfl rfl),
            st_plain rfl (op_move _ _ _ _ rfl rfl),
            st_plain rfl ((Option.some.inj hv17) ▸ op_conv _ _ _ Try.underlying3 Try.underlying33 rfl),
            st_plain rfl (op_bin _ _ _ _ _ rfl rfl (shl_ok hv18)),
            st_plain rfl (op_bin _ _ _ _ _ rfl rfl (ibind (f := Value.int .i64) (Option.some.inj hv19))),
            st_plain rfl (op_bin _ _ _ _ _ rfl rfl (ibind (f := Value.int .i64) (Option.some.inj hv20))),
            st_plain rfl (op_bin _ _ _ _ _ rfl rfl (ibind (f := Value.int .i64) (Option.some.inj hv21))),
            st_plain rfl (LOp.drop [_] (op_assign _ _ _ _ rfl rfl)),
            trivial⟩ ?_
        refine pt_then ?_
        refine ht_seq ?_
        obtain ⟨v22, hv22, h⟩ := bind_some h
        refine ht_seqR hn (El := [_, _, _, _, _, (36, .fl .shr 1 (List.map (Value.int .u8) b)), (37, .fl (.own 5) 1 (List.map (Value.int .u8) v22)), (10, .fl (.own 5) 1 (List.map (Value.int .u8) v22))]) (init := [0, 1, 2, 3, 4]) (fin := [0, 1, 2, 3, 4, 7]) (sps := [⟨[0], [], [5], [(.slot 36)]⟩, ⟨[5], [], [6], [(.slot 37)]⟩, ⟨[], [6], [7], [(.slot 10)]⟩]) (es' := [(_, _), (_, _), (_, _), (_, _), (_, _), (10, .fl (.own 5) 1 (List.map (Value.int .u8) v22))]) (by kernel_rfl) rfl rfl
          ⟨st_plain rfl (op_move _ _ _ _ rfl rfl),
            st_plain rfl (op_call _ _ 9 _ _ rfl Try.call9 rfl (ok_wherrykeep_Twin b _ hv22) rfl rfl),
            st_plain rfl (op_assign_take _ _ _ _ rfl),
            trivial⟩ ?_
        refine pt_then ?_
        refine ht_seq ?_
        refine ht_seq ?_
        refine ht_seqR hn (El := [_, _, _, _, _, _, (11, .v (.int .i64 0))]) (init := [0, 1, 2, 3, 4, 5]) (fin := [0, 1, 2, 3, 4, 5, 6]) (sps := [⟨[], [], [6], [(.slot 11)]⟩]) (es' := [(_, _), (_, _), (_, _), (_, _), (_, _), (_, _), (11, .v (.int .i64 0))]) (by kernel_rfl) rfl rfl
          ⟨st_plain rfl (op_assign _ _ _ _ rfl rfl),
            trivial⟩ ?_
        refine pt_then ?_
        refine ht_loopS h (fun ((s66, s67) : (List Int) × Int) => [(0, .fl .shr 1 (List.map (Value.int .u8) b)), (3, .v (.bool wide)), (1, .v (.int .i64 v10)), (9, .v (.int .i64 s12)), (2, .v (.int .i64 v21)), (10, .fl (.own 5) 1 (List.map (Value.int .u8) s66)), (11, .v (.int .i64 s67))]) (fun (s79 : (List Int)) => [(0, .fl .shr 1 (List.map (Value.int .u8) b)), (3, .v (.bool wide)), (10, .fl (.own 5) 1 (List.map (Value.int .u8) s79))]) ?_ ?_
        · rintro s79 h
          refine pt_then ?_
          refine ht_seq ?_
          refine ht_seq ?_
          refine ht_seqR hn (El := [_, _, _, (78, .v (.bool wide))]) (init := [0, 1, 2]) (fin := [0, 2, 3]) (sps := [⟨[1], [], [3], [(.slot 78)]⟩]) (es' := [(_, _), (_, _), (78, .v (.bool wide))]) (by kernel_rfl) rfl rfl
            ⟨st_plain rfl (op_move _ _ _ _ rfl rfl),
              trivial⟩ ?_
          refine pt_then ?_
          refine ht_cond _ rfl (fun hb97 => ?_) (fun hb97 => ?_)
          · have h := cond_t hb97 h
            refine ht_seq ?_
            refine ht_joinS h (fun (s101 : Bool) => [(8, .v (.bool s101))]) ?_ ?_
            · rintro s101 h
              refine pt_then ?_
              refine ht_ret ?_
              refine pt_r_then ?_
              obtain rfl := Option.some.inj h
              exact pt_ret hio rfl (.tmp _ _ .nil) rfl rfl
            · intro u102 h hl103 hr104
              obtain ⟨v98, hv98, h⟩ := bind_some h
              obtain ⟨v99, hv99, h⟩ := bind_some h
              refine cond_some h (fun hg15_5 h => ?_) (fun hg15_5 h => ?_)
              · obtain ⟨v100, hv100, h⟩ := bind_some h
                refine ht_seqR hn (El := [_, _, _, (79, .fl (.own 5) 1 (List.map (Value.int .u8) s79)), (80, .v (.int .i64 v98)), (81, .fl .shr 1 (List.map (Value.int .u8) b)), (82, .v (.int .i64 v99)), (83, .v (.bool (v98 != v99))), (84, .v (.bool true)), (85, .v (.bool v100)), (86, .v (.bool v100)), (8, .v (.bool v100))]) (init := [0, 1, 2]) (fin := [11]) (sps := [⟨[], [1], [3], [(.slot 79)]⟩, ⟨[3], [], [4], [(.slot 80)]⟩, ⟨[0], [], [5], [(.slot 81)]⟩, ⟨[5], [], [6], [(.slot 82)]⟩, ⟨[4, 6], [], [7], [(.slot 83)]⟩, ⟨[7], [], [8], [(.slot 84)]⟩, ⟨[8], [], [9], [(.slot 85)]⟩, ⟨[8, 9], [], [10], [(.slot 86)]⟩, ⟨[10], [], [11], [(.slot 8)]⟩]) (es' := [(8, .v (.bool v100))]) (by kernel_rfl) rfl rfl
                  ⟨st_plain rfl (op_move_take _ _ _ _ rfl),
                    st_plain rfl (op_call _ _ 16 _ _ rfl Try.call16 rfl (ok_sums_Long s79 _ hv98) rfl rfl),
                    st_plain rfl (op_move _ _ _ _ rfl rfl),
                    st_plain rfl (op_call _ _ 16 _ _ rfl Try.call16 rfl (ok_sums_Long b _ hv99) rfl rfl),
                    st_plain rfl (op_bin _ _ _ _ _ rfl rfl rfl),
                    st_plain rfl (op_move _ _ _ _ (congrArg (fun b => AV.v (Value.bool b)) hg15_5) rfl),
                    st_run 5 84 true rfl rfl rfl (List.Mem.head _) (op_call _ _ 12 _ _ rfl Try.call12 rfl (ok_wherrylaw08_wakes  _ hv100) rfl rfl),
                    st_plain rfl (op_pick _ _ true _ rfl rfl),
                    st_plain rfl (op_assign _ _ _ _ rfl rfl),
                    trivial⟩ ?_
                exact hl103 _ (Option.some.inj h).symm
              · refine ht_seqR hn (El := [_, _, _, (79, .fl (.own 5) 1 (List.map (Value.int .u8) s79)), (80, .v (.int .i64 v98)), (81, .fl .shr 1 (List.map (Value.int .u8) b)), (82, .v (.int .i64 v99)), (83, .v (.bool (v98 != v99))), (84, .v (.bool false)), (85, .v undef), (86, .v (.bool false)), (8, .v (.bool false))]) (init := [0, 1, 2]) (fin := [11]) (sps := [⟨[], [1], [3], [(.slot 79)]⟩, ⟨[3], [], [4], [(.slot 80)]⟩, ⟨[0], [], [5], [(.slot 81)]⟩, ⟨[5], [], [6], [(.slot 82)]⟩, ⟨[4, 6], [], [7], [(.slot 83)]⟩, ⟨[7], [], [8], [(.slot 84)]⟩, ⟨[8], [], [9], [(.slot 85)]⟩, ⟨[8], [], [10], [(.slot 86)]⟩, ⟨[10], [], [11], [(.slot 8)]⟩]) (es' := [(8, .v (.bool false))]) (by kernel_rfl) rfl rfl
                  ⟨st_plain rfl (op_move_take _ _ _ _ rfl),
                    st_plain rfl (op_call _ _ 16 _ _ rfl Try.call16 rfl (ok_sums_Long s79 _ hv98) rfl rfl),
                    st_plain rfl (op_move _ _ _ _ rfl rfl),
                    st_plain rfl (op_call _ _ 16 _ _ rfl Try.call16 rfl (ok_sums_Long b _ hv99) rfl rfl),
                    st_plain rfl (op_bin _ _ _ _ _ rfl rfl rfl),
                    st_plain rfl (op_move _ _ _ _ (congrArg (fun b => AV.v (Value.bool b)) hg15_5) rfl),
                    st_skip 5 84 _ true rfl rfl rfl rfl (List.Mem.head _),
                    st_plain rfl (op_pick _ _ false _ rfl rfl),
                    st_plain rfl (op_assign _ _ _ _ rfl rfl),
                    trivial⟩ ?_
                exact hl103 _ (Option.some.inj h).symm
          · have h := cond_f hb97 h
            refine ht_skip ?_
            refine pt_then ?_
            refine ht_seq ?_
            refine ht_joinS h (fun (s110 : Bool) => [(8, .v (.bool s110))]) ?_ ?_
            · rintro s110 h
              refine pt_then ?_
              refine ht_ret ?_
              obtain rfl := Option.some.inj h
              exact pt_ret hio rfl (.tmp _ _ .nil) rfl rfl
            · intro u111 h hl112 hr113
              obtain ⟨v105, hv105, h⟩ := bind_some h
              obtain ⟨v106, hv106, h⟩ := bind_some h
              refine cond_some h (fun hg16_5 h => ?_) (fun hg16_5 h => ?_)
              · obtain ⟨v107, hv107, h⟩ := bind_some h
                obtain ⟨v108, hv108, h⟩ := bind_some h
                refine cond_some h (fun hg16_12 h => ?_) (fun hg16_12 h => ?_)
                · obtain ⟨v109, hv109, h⟩ := bind_some h
                  refine ht_seqR hn (El := (_ :: _ :: _ :: (87, .same (.slot 10)) :: (88, .v (.int .i64 v105)) :: (89, .fl .shr 1 (List.map (Value.int .u8) b)) :: (90, .v (.int .i64 v106)) :: (91, .v (.bool (v105 != v106))) :: (92, .v (.bool true)) :: (93, .fl (.own 5) 1 (List.map (Value.int .u8) s79)) :: (94, .v (.int .i64 v107)) :: (95, .fl .shr 1 (List.map (Value.int .u8) b)) :: (96, .v (.int .i64 v108)) :: (97, .v (.bool (v107 != v108))) :: (98, .v (.bool (v107 != v108))) :: (99, .v (.bool true)) :: (100, .v (.bool v109)) :: (101, .v (.bool v109)) :: (8, .v (.bool v109)) :: [])) (init := [0, 1, 2]) (fin := [18]) (sps := (⟨[1], [], [3], [(.slot 87)]⟩ :: ⟨[3, 1], [], [4], [(.slot 88)]⟩ :: ⟨[0], [], [5], [(.slot 89)]⟩ :: ⟨[5], [], [6], [(.slot 90)]⟩ :: ⟨[4, 6], [], [7], [(.slot 91)]⟩ :: ⟨[7], [], [8], [(.slot 92)]⟩ :: ⟨[8], [3, 1], [9], [(.slot 93)]⟩ :: ⟨[8, 9], [], [10], [(.slot 94)]⟩ :: ⟨[8, 0], [], [11], [(.slot 95)]⟩ :: ⟨[8, 11], [], [12], [(.slot 96)]⟩ :: ⟨[8, 10, 12], [], [13], [(.slot 97)]⟩ :: ⟨[8, 13], [], [14], [(.slot 98)]⟩ :: ⟨[14], [], [15], [(.slot 99)]⟩ :: ⟨[15], [], [16], [(.slot 100)]⟩ :: ⟨[15, 16], [], [17], [(.slot 101)]⟩ :: ⟨[17], [], [18], [(.slot 8)]⟩ :: [])) (es' := [(8, .v (.bool v109))]) (by kernel_rfl) rfl rfl
                    ⟨st_plain rfl (op_move _ _ _ _ rfl rfl),
                      st_plain rfl (op_call _ _ 14 _ _ rfl Try.call14 rfl (ok_sums_Short s79 _ hv105) rfl rfl),
                      st_plain rfl (op_move _ _ _ _ rfl rfl),
                      st_plain rfl (op_call _ _ 14 _ _ rfl Try.call14 rfl (ok_sums_Short b _ hv106) rfl rfl),
                      st_plain rfl (op_bin _ _ _ _ _ rfl rfl rfl),
                      st_plain rfl (op_move _ _ _ _ (congrArg (fun b => AV.v (Value.bool b)) hg16_5) rfl),
                      st_run 5 92 true rfl rfl rfl (List.Mem.head _) (LOp.drop [_] (op_move_take _ _ _ _ rfl)),
                      st_run 5 92 true rfl rfl rfl (List.Mem.head _) (op_call _ _ 16 _ _ rfl Try.call16 rfl (ok_sums_Long s79 _ hv107) rfl rfl),
                      st_run 5 92 true rfl rfl rfl (List.Mem.head _) (op_move _ _ _ _ rfl rfl),
                      st_run 5 92 true rfl rfl rfl (List.Mem.head _) (op_call _ _ 16 _ _ rfl Try.call16 rfl (ok_sums_Long b _ hv108) rfl rfl),
                      st_run 5 92 true rfl rfl rfl (List.Mem.head _) (op_bin _ _ _ _ _ rfl rfl rfl),
                      st_plain rfl (op_pick _ _ true _ rfl rfl),
                      st_plain rfl (op_move _ _ _ _ (congrArg (fun b => AV.v (Value.bool b)) hg16_12) rfl),
                      st_run 12 99 true rfl rfl rfl (List.Mem.head _) (op_call _ _ 12 _ _ rfl Try.call12 rfl (ok_wherrylaw08_wakes  _ hv109) rfl rfl),
                      st_plain rfl (op_pick _ _ true _ rfl rfl),
                      st_plain rfl (op_assign _ _ _ _ rfl rfl),
                      trivial⟩ ?_
                  exact hl112 _ (Option.some.inj h).symm
                · refine ht_seqR hn (El := (_ :: _ :: _ :: (87, .same (.slot 10)) :: (88, .v (.int .i64 v105)) :: (89, .fl .shr 1 (List.map (Value.int .u8) b)) :: (90, .v (.int .i64 v106)) :: (91, .v (.bool (v105 != v106))) :: (92, .v (.bool true)) :: (93, .fl (.own 5) 1 (List.map (Value.int .u8) s79)) :: (94, .v (.int .i64 v107)) :: (95, .fl .shr 1 (List.map (Value.int .u8) b)) :: (96, .v (.int .i64 v108)) :: (97, .v (.bool (v107 != v108))) :: (98, .v (.bool (v107 != v108))) :: (99, .v (.bool false)) :: (100, .v undef) :: (101, .v (.bool false)) :: (8, .v (.bool false)) :: [])) (init := [0, 1, 2]) (fin := [18]) (sps := (⟨[1], [], [3], [(.slot 87)]⟩ :: ⟨[3, 1], [], [4], [(.slot 88)]⟩ :: ⟨[0], [], [5], [(.slot 89)]⟩ :: ⟨[5], [], [6], [(.slot 90)]⟩ :: ⟨[4, 6], [], [7], [(.slot 91)]⟩ :: ⟨[7], [], [8], [(.slot 92)]⟩ :: ⟨[8], [3, 1], [9], [(.slot 93)]⟩ :: ⟨[8, 9], [], [10], [(.slot 94)]⟩ :: ⟨[8, 0], [], [11], [(.slot 95)]⟩ :: ⟨[8, 11], [], [12], [(.slot 96)]⟩ :: ⟨[8, 10, 12], [], [13], [(.slot 97)]⟩ :: ⟨[8, 13], [], [14], [(.slot 98)]⟩ :: ⟨[14], [], [15], [(.slot 99)]⟩ :: ⟨[15], [], [16], [(.slot 100)]⟩ :: ⟨[15], [], [17], [(.slot 101)]⟩ :: ⟨[17], [], [18], [(.slot 8)]⟩ :: [])) (es' := [(8, .v (.bool false))]) (by kernel_rfl) rfl rfl
                    ⟨st_plain rfl (op_move _ _ _ _ rfl rfl),
                      st_plain rfl (op_call _ _ 14 _ _ rfl Try.call14 rfl (ok_sums_Short s79 _ hv105) rfl rfl),
                      st_plain rfl (op_move _ _ _ _ rfl rfl),
                      st_plain rfl (op_call _ _ 14 _ _ rfl Try.call14 rfl (ok_sums_Short b _ hv106) rfl rfl),
                      st_plain rfl (op_bin _ _ _ _ _ rfl rfl rfl),
                      st_plain rfl (op_move _ _ _ _ (congrArg (fun b => AV.v (Value.bool b)) hg16_5) rfl),
                      st_run 5 92 true rfl rfl rfl (List.Mem.head _) (LOp.drop [_] (op_move_take _ _ _ _ rfl)),
                      st_run 5 92 true rfl rfl rfl (List.Mem.head _) (op_call _ _ 16 _ _ rfl Try.call16 rfl (ok_sums_Long s79 _ hv107) rfl rfl),
                      st_run 5 92 true rfl rfl rfl (List.Mem.head _) (op_move _ _ _ _ rfl rfl),
                      st_run 5 92 true rfl rfl rfl (List.Mem.head _) (op_call _ _ 16 _ _ rfl Try.call16 rfl (ok_sums_Long b _ hv108) rfl rfl),
                      st_run 5 92 true rfl rfl rfl (List.Mem.head _) (op_bin _ _ _ _ _ rfl rfl rfl),
                      st_plain rfl (op_pick _ _ true _ rfl rfl),
                      st_plain rfl (op_move _ _ _ _ (congrArg (fun b => AV.v (Value.bool b)) hg16_12) rfl),
                      st_skip 12 99 _ true rfl rfl rfl rfl (List.Mem.head _),
                      st_plain rfl (op_pick _ _ false _ rfl rfl),
                      st_plain rfl (op_assign _ _ _ _ rfl rfl),
                      trivial⟩ ?_
                  exact hl112 _ (Option.some.inj h).symm
              · refine ht_seqR hn (El := (_ :: _ :: _ :: (87, .same (.slot 10)) :: (88, .v (.int .i64 v105)) :: (89, .fl .shr 1 (List.map (Value.int .u8) b)) :: (90, .v (.int .i64 v106)) :: (91, .v (.bool (v105 != v106))) :: (92, .v (.bool false)) :: (93, .v undef) :: (94, .v undef) :: (95, .v undef) :: (96, .v undef) :: (97, .v undef) :: (98, .v (.bool false)) :: (99, .v (.bool false)) :: (100, .v undef) :: (101, .v (.bool false)) :: (8, .v (.bool false)) :: [])) (init := [0, 1, 2]) (fin := [18]) (sps := (⟨[1], [], [3], [(.slot 87)]⟩ :: ⟨[3, 1], [], [4], [(.slot 88)]⟩ :: ⟨[0], [], [5], [(.slot 89)]⟩ :: ⟨[5], [], [6], [(.slot 90)]⟩ :: ⟨[4, 6], [], [7], [(.slot 91)]⟩ :: ⟨[7], [], [8], [(.slot 92)]⟩ :: ⟨[8], [], [9], [(.slot 93)]⟩ :: ⟨[8], [], [10], [(.slot 94)]⟩ :: ⟨[8], [], [11], [(.slot 95)]⟩ :: ⟨[8], [], [12], [(.slot 96)]⟩ :: ⟨[8], [], [13], [(.slot 97)]⟩ :: ⟨[8], [], [14], [(.slot 98)]⟩ :: ⟨[14], [], [15], [(.slot 99)]⟩ :: ⟨[15], [], [16], [(.slot 100)]⟩ :: ⟨[15], [], [17], [(.slot 101)]⟩ :: ⟨[17], [], [18], [(.slot 8)]⟩ :: [])) (es' := [(8, .v (.bool false))]) (by kernel_rfl) rfl rfl
                  ⟨st_plain rfl (op_move _ _ _ _ rfl rfl),
                    st_plain rfl (op_call _ _ 14 _ _ rfl Try.call14 rfl (ok_sums_Short s79 _ hv105) rfl rfl),
                    st_plain rfl (op_move _ _ _ _ rfl rfl),
                    st_plain rfl (op_call _ _ 14 _ _ rfl Try.call14 rfl (ok_sums_Short b _ hv106) rfl rfl),
                    st_plain rfl (op_bin _ _ _ _ _ rfl rfl rfl),
                    st_plain rfl (op_move _ _ _ _ (congrArg (fun b => AV.v (Value.bool b)) hg16_5) rfl),
                    st_skip 5 92 _ true rfl rfl rfl rfl (List.Mem.head _),
                    st_skip 5 92 _ true rfl rfl rfl rfl (List.Mem.head _),
                    st_skip 5 92 _ true rfl rfl rfl rfl (List.Mem.head _),
                    st_skip 5 92 _ true rfl rfl rfl rfl (List.Mem.head _),
                    st_skip 5 92 _ true rfl rfl rfl rfl (List.Mem.head _),
                    st_plain rfl (op_pick _ _ false _ rfl rfl),
                    st_plain rfl (op_move _ _ _ _ rfl rfl),
                    st_skip 12 99 _ true rfl rfl rfl rfl (List.Mem.head _),
                    st_plain rfl (op_pick _ _ false _ rfl rfl),
                    st_plain rfl (op_assign _ _ _ _ rfl rfl),
                    trivial⟩ ?_
                exact hl112 _ (Option.some.inj h).symm
        · rintro u80 hl81 hr82 ⟨s66, s67⟩ rr85 h ho83
          refine ht_seq ?_
          refine ht_seq ?_
          refine ht_joinS h (fun (s86 : Bool) => [(0, .fl .shr 1 (List.map (Value.int .u8) b)), (3, .v (.bool wide)), (1, .v (.int .i64 v10)), (9, .v (.int .i64 s12)), (2, .v (.int .i64 v21)), (10, .fl (.own 5) 1 (List.map (Value.int .u8) s66)), (11, .v (.int .i64 s67)), (49, .v (.bool s86))]) ?_ ?_
          · rintro s86 h
            refine pt_then ?_
            refine ht_cond _ rfl (fun hb90 => ?_) (fun hb90 => ?_)
            · have h := cond_t hb90 h
              refine ht_skip ?_
              refine pt_then ?_
              refine ht_seq ?_
              refine ht_joinS h (fun (s92 : (List Int)) => [(0, .fl .shr 1 (List.map (Value.int .u8) b)), (3, .v (.bool wide)), (1, .v (.int .i64 v10)), (9, .v (.int .i64 s12)), (2, .v (.int .i64 v21)), (10, .fl (.own 5) 1 (List.map (Value.int .u8) s92)), (11, .v (.int .i64 s67))]) ?_ ?_
              · rintro s92 h
                refine pt_then ?_
                obtain ⟨v52, hv52, h⟩ := bind_some h
                refine ht_seqR hn (El := [_, _, _, _, _, _, _, (50, .v (.int .i64 s67)), (51, .v (.int .i64 v52)), (11, .v (.int .i64 v52))]) (init := [0, 1, 2, 3, 4, 5, 6]) (fin := [0, 1, 2, 3, 4, 5, 9]) (sps := [⟨[6], [], [7], [(.slot 50)]⟩, ⟨[7], [], [8], [(.slot 51)]⟩, ⟨[8], [6], [9], [(.slot 11)]⟩]) (es' := [(_, _), (_, _), (_, _), (_, _), (_, _), (_, _), (11, .v (.int .i64 v52))]) (by kernel_rfl) rfl rfl
                  ⟨st_plain rfl (op_move _ _ _ _ rfl rfl),
                    st_plain rfl (op_bin _ _ _ _ _ rfl rfl (ibind (f := Value.int .i64) (Option.some.inj hv52))),
                    st_plain rfl (LOp.drop [_] (op_assign _ _ _ _ rfl rfl)),
                    trivial⟩ ?_
                exact pt_next _ (Option.some.inj h).symm rfl
              · intro u93 h hl94 hr95
                refine ht_block ?_
                refine ht_seq ?_
                obtain ⟨v30, hv30, h⟩ := bind_some h
                obtain ⟨v31, hv31, h⟩ := bind_some h
                obtain ⟨v32, hv32, h⟩ := bind_some h
                refine ht_seqR hn (El := [_, _, _, _, _, _, _, _, (52, .v (.int .i64 v21)), (53, .v (.int .i64 s67)), (54, .v (.int .u64 v30)), (55, .v (.int .i64 v31)), (56, .v (.int .i64 v32)), (57, .v (.bool (v32 == 1)))]) (init := [0, 1, 2, 3, 4, 5, 6, 7]) (fin := [0, 1, 2, 3, 4, 5, 6, 13]) (sps := [⟨[4], [], [8], [(.slot 52)]⟩, ⟨[6], [], [9], [(.slot 53)]⟩, ⟨[9], [], [10], [(.slot 54)]⟩, ⟨[8, 10], [], [11], [(.slot 55)]⟩, ⟨[11], [], [12], [(.slot 56)]⟩, ⟨[12], [], [13], [(.slot 57)]⟩]) (es' := [(_, _), (_, _), (_, _), (_, _), (_, _), (_, _), (_, _), (57, .v (.bool (v32 == 1)))]) (by kernel_rfl) rfl rfl
                  ⟨st_plain rfl (op_move _ _ _ _ rfl rfl),
                    st_plain rfl (op_move _ _ _ _ rfl rfl),
                    st_plain rfl ((Option.some.inj hv30) ▸ op_conv _ _ _ Try.underlying3 Try.underlying33 rfl),
                    st_plain rfl (op_bin _ _ _ _ _ rfl rfl (shr_ok hv31)),
                    st_plain rfl (op_bin _ _ _ _ _ rfl rfl (ibind (f := Value.int .i64) (Option.some.inj hv32))),
                    st_plain rfl (op_bin _ _ _ _ _ rfl rfl rfl),
                    trivial⟩ ?_
                refine pt_then ?_
                refine ht_cond _ rfl (fun hb96 => ?_) (fun hb96 => ?_)
                · have h := cond_t hb96 h
                  obtain ⟨v34, hv34, h⟩ := bind_some h
                  obtain ⟨v35, hv35, h⟩ := bind_some h
                  obtain ⟨v36, hv36, h⟩ := bind_some h
                  obtain ⟨v37, hv37, h⟩ := bind_some h
                  obtain ⟨v38, hv38, h⟩ := bind_some h
                  obtain ⟨v39, hv39, h⟩ := bind_some h
                  obtain ⟨v40, hv40, h⟩ := bind_some h
                  obtain ⟨v41, hv41, h⟩ := bind_some h
                  obtain ⟨v42, hv42, h⟩ := bind_some h
                  obtain ⟨v43, hv43, h⟩ := bind_some h
                  obtain ⟨v44, hv44, h⟩ := bind_some h
                  obtain ⟨v45, hv45, h⟩ := bind_some h
                  obtain ⟨v46, hv46, h⟩ := bind_some h
                  refine ht_seqR hn (El := (_ :: _ :: _ :: _ :: _ :: _ :: _ :: _ :: (58, .same (.slot 10)) :: (59, .v (.int .i64 v10)) :: (60, .v (.int .i64 s67)) :: (61, .v (.int .i64 v34)) :: (62, .v (.int .i64 v35)) :: (63, .same (.slot 10)) :: (64, .v (.int .i64 v10)) :: (65, .v (.int .i64 s67)) :: (66, .v (.int .i64 v36)) :: (67, .v (.int .i64 v37)) :: (68, .eref (.slot 10) (v38 * 1)) :: (69, .v (.int .u8 v39)) :: (70, .v (.int .i64 v10)) :: (71, .v (.int .i64 s67)) :: (72, .v (.int .i64 v40)) :: (73, .v (.int .i64 v41)) :: (74, .v (.int .u64 v42)) :: (75, .v (.int .u8 v43)) :: (76, .v (.int .u8 v44)) :: (77, .eref (.slot 10) (v45 * 1)) :: (10, .fl (.own 5) 1 (List.map (Value.int .u8) v46)) :: [])) (init := [0, 1, 2, 3, 4, 5, 6, 7]) (fin := [0, 1, 2, 3, 4, 28, 6]) (sps := (⟨[5], [], [8], [(.slot 58)]⟩ :: ⟨[2], [], [9], [(.slot 59)]⟩ :: ⟨[6], [], [10], [(.slot 60)]⟩ :: ⟨[9, 10], [], [11], [(.slot 61)]⟩ :: ⟨[11], [], [12], [(.slot 62)]⟩ :: ⟨[5], [], [13], [(.slot 63)]⟩ :: ⟨[2], [], [14], [(.slot 64)]⟩ :: ⟨[6], [], [15], [(.slot 65)]⟩ :: ⟨[14, 15], [], [16], [(.slot 66)]⟩ :: ⟨[16], [], [17], [(.slot 67)]⟩ :: ⟨[13, 5, 17], [], [18], [(.slot 68)]⟩ :: ⟨[18, 5], [], [19], [(.slot 69)]⟩ :: ⟨[2], [], [20], [(.slot 70)]⟩ :: ⟨[6], [], [21], [(.slot 71)]⟩ :: ⟨[20, 21], [], [22], [(.slot 72)]⟩ :: ⟨[22], [], [23], [(.slot 73)]⟩ :: ⟨[23], [], [24], [(.slot 74)]⟩ :: ⟨[24], [], [25], [(.slot 75)]⟩ :: ⟨[19, 25], [], [26], [(.slot 76)]⟩ :: ⟨[8, 5, 12], [], [27], [(.slot 77)]⟩ :: ⟨[27, 26], [5], [28], []⟩ :: [])) (es' := [(_, _), (_, _), (_, _), (_, _), (_, _), (10, .fl (.own 5) 1 (List.map (Value.int .u8) v46)), (_, _)]) (by kernel_rfl) rfl rfl
                    ⟨st_plain rfl (op_move _ _ _ _ rfl rfl),
                      st_plain rfl (op_move _ _ _ _ rfl rfl),
                      st_plain rfl (op_move _ _ _ _ rfl rfl),
                      st_plain rfl (op_bin _ _ _ _ _ rfl rfl (ibind (f := Value.int .i64) (Option.some.inj hv34))),
                      st_plain rfl (op_bin _ _ _ _ _ rfl rfl (quo_ok hv35)),
                      st_plain rfl (op_move _ _ _ _ rfl rfl),
                      st_plain rfl (op_move _ _ _ _ rfl rfl),
                      st_plain rfl (op_move _ _ _ _ rfl rfl),
                      st_plain rfl (op_bin _ _ _ _ _ rfl rfl (ibind (f := Value.int .i64) (Option.some.inj hv36))),
                      st_plain rfl (op_bin _ _ _ _ _ rfl rfl (quo_ok hv37)),
                      st_plain rfl (op_ix _ _ _ _ _ _ _ _ Try.underlying22 sz5 (by decide) rfl rfl rfl (ix_ok hv38).1 (map_lt (ix_ok hv38).2) rfl),
                      st_plain rfl (op_load_e _ _ _ _ _ _ Try.underlying5 rfl rfl rfl (map_get hv39)),
                      st_plain rfl (op_move _ _ _ _ rfl rfl),
                      st_plain rfl (op_move _ _ _ _ rfl rfl),
                      st_plain rfl (op_bin _ _ _ _ _ rfl rfl (ibind (f := Value.int .i64) (Option.some.inj hv40))),
                      st_plain rfl (op_bin _ _ _ _ _ rfl rfl (rem_ok hv41)),
                      st_plain rfl ((Option.some.inj hv42) ▸ op_conv _ _ _ Try.underlying3 Try.underlying33 rfl),
                      st_plain rfl (op_bin _ _ _ _ _ rfl rfl (shl_ok hv43)),
                      st_plain rfl (op_bin _ _ _ _ _ rfl rfl (ibind (f := Value.int .u8) (Option.some.inj hv44))),
                      st_plain rfl (op_ix _ _ _ _ _ _ _ _ Try.underlying22 sz5 (by decide) rfl rfl rfl (ix_ok hv45).1 (map_lt (ix_ok hv45).2) rfl),
                      st_plain rfl (op_store_e _ _ _ _ _ _ _ _ sz5 rfl rfl rfl (by decide) (map_lt (ix_ok hv45).2) ((map_set (f := Value.int .u8) _ (ix_ok hv45).2).trans (congrArg (List.map _) (Option.some.inj hv46)))),
                      trivial⟩ ?_
                  refine pt_inb ?_
                  exact hl94 _ (Option.some.inj h).symm
                · have h := cond_f hb96 h
                  refine ht_skip ?_
                  refine pt_inb ?_
                  refine pt_pick [0, 1, 2, 3, 4, 5, 6] (by kernel_rfl) (es' := [(_, _), (_, _), (_, _), (_, _), (_, _), (_, _), (_, _)]) rfl ?_
                  exact hl94 _ (Option.some.inj h).symm
            · have h := cond_f hb90 h
              refine ht_exit ?_
              refine pt_x_then ?_
              refine pt_x_then ?_
              refine pt_x_in ?_
              refine pt_pick [0, 1, 5] (by kernel_rfl) (es' := [(_, _), (_, _), (_, _)]) rfl ?_
              exact hl81 _ (ho83 _ (Option.some.inj h).symm).symm
          · intro u87 h hl88 hr89
            refine cond_some h (fun hg10_3 h => ?_) (fun hg10_3 h => ?_)
            · obtain ⟨v23, hv23, h⟩ := bind_some h
              obtain ⟨v24, hv24, h⟩ := bind_some h
              refine ht_seqR hn (El := (_ :: _ :: _ :: _ :: _ :: _ :: _ :: (38, .v (.int .i64 s67)) :: (39, .v (.int .i64 s12)) :: (40, .v (.bool ((decide (s67 < s12))))) :: (41, .v (.bool true)) :: (42, .v (.int .i64 v10)) :: (43, .v (.int .i64 s67)) :: (44, .v (.int .i64 v23)) :: (45, .fl .shr 1 (List.map (Value.int .u8) b)) :: (46, .v (.int .i64 (b.length : Int))) :: (47, .v (.int .i64 v24)) :: (48, .v (.bool ((decide (v23 < v24))))) :: (49, .v (.bool ((decide (v23 < v24))))) :: [])) (init := [0, 1, 2, 3, 4, 5, 6]) (fin := [0, 1, 2, 3, 4, 5, 6, 18]) (sps := [⟨[6], [], [7], [(.slot 38)]⟩, ⟨[3], [], [8], [(.slot 39)]⟩, ⟨[7, 8], [], [9], [(.slot 40)]⟩, ⟨[9], [], [10], [(.slot 41)]⟩, ⟨[10, 2], [], [11], [(.slot 42)]⟩, ⟨[10, 6], [], [12], [(.slot 43)]⟩, ⟨[10, 11, 12], [], [13], [(.slot 44)]⟩, ⟨[10, 0], [], [14], [(.slot 45)]⟩, ⟨[10, 14], [], [15], [(.slot 46)]⟩, ⟨[10, 15], [], [16], [(.slot 47)]⟩, ⟨[10, 13, 16], [], [17], [(.slot 48)]⟩, ⟨[10, 17], [], [18], [(.slot 49)]⟩]) (es' := [(_, _), (_, _), (_, _), (_, _), (_, _), (_, _), (_, _), (49, .v (.bool ((decide (v23 < v24)))))]) (by kernel_rfl) rfl rfl
                ⟨st_plain rfl (op_move _ _ _ _ rfl rfl),
                  st_plain rfl (op_move _ _ _ _ rfl rfl),
                  st_plain rfl (op_bin _ _ _ _ _ rfl rfl rfl),
                  st_plain rfl (op_move _ _ _ _ (congrArg (fun b => AV.v (Value.bool b)) hg10_3) rfl),
                  st_run 3 41 true rfl rfl rfl (List.Mem.head _) (op_move _ _ _ _ rfl rfl),
                  st_run 3 41 true rfl rfl rfl (List.Mem.head _) (op_move _ _ _ _ rfl rfl),
                  st_run 3 41 true rfl rfl rfl (List.Mem.head _) (op_bin _ _ _ _ _ rfl rfl (ibind (f := Value.int .i64) (Option.some.inj hv23))),
                  st_run 3 41 true rfl rfl rfl (List.Mem.head _) (op_move _ _ _ _ rfl rfl),
                  st_run 3 41 true rfl rfl rfl (List.Mem.head _) (op_len_fl _ _ _ Try.underlying22 rfl (by decide) (map_len _)),
                  st_run 3 41 true rfl rfl rfl (List.Mem.head _) (op_bin _ _ _ _ _ rfl rfl (ibind (f := Value.int .i64) (Option.some.inj hv24))),
                  st_run 3 41 true rfl rfl rfl (List.Mem.head _) (op_bin _ _ _ _ _ rfl rfl rfl),
                  st_plain rfl (op_pick _ _ true _ rfl rfl),
                  trivial⟩ ?_
              exact hl88 _ (Option.some.inj h).symm
            · refine ht_seqR hn (El := (_ :: _ :: _ :: _ :: _ :: _ :: _ :: (38, .v (.int .i64 s67)) :: (39, .v (.int .i64 s12)) :: (40, .v (.bool ((decide (s67 < s12))))) :: (41, .v (.bool false)) :: (42, .v undef) :: (43, .v undef) :: (44, .v undef) :: (45, .v undef) :: (46, .v undef) :: (47, .v undef) :: (48, .v undef) :: (49, .v (.bool false)) :: [])) (init := [0, 1, 2, 3, 4, 5, 6]) (fin := [0, 1, 2, 3, 4, 5, 6, 18]) (sps := [⟨[6], [], [7], [(.slot 38)]⟩, ⟨[3], [], [8], [(.slot 39)]⟩, ⟨[7, 8], [], [9], [(.slot 40)]⟩, ⟨[9], [], [10], [(.slot 41)]⟩, ⟨[10], [], [11], [(.slot 42)]⟩, ⟨[10], [], [12], [(.slot 43)]⟩, ⟨[10], [], [13], [(.slot 44)]⟩, ⟨[10], [], [14], [(.slot 45)]⟩, ⟨[10], [], [15], [(.slot 46)]⟩, ⟨[10], [], [16], [(.slot 47)]⟩, ⟨[10], [], [17], [(.slot 48)]⟩, ⟨[10], [], [18], [(.slot 49)]⟩]) (es' := [(_, _), (_, _), (_, _), (_, _), (_, _), (_, _), (_, _), (49, .v (.bool false))]) (by kernel_rfl) rfl rfl
                ⟨st_plain rfl (op_move _ _ _ _ rfl rfl),
                  st_plain rfl (op_move _ _ _ _ rfl rfl),
                  st_plain rfl (op_bin _ _ _ _ _ rfl rfl rfl),
                  st_plain rfl (op_move _ _ _ _ (congrArg (fun b => AV.v (Value.bool b)) hg10_3) rfl),
                  st_skip 3 41 _ true rfl rfl rfl rfl (List.Mem.head _),
                  st_skip 3 41 _ true rfl rfl rfl rfl (List.Mem.head _),
                  st_skip 3 41 _ true rfl rfl rfl rfl (List.Mem.head _),
                  st_skip 3 41 _ true rfl rfl rfl rfl (List.Mem.head _),
                  st_skip 3 41 _ true rfl rfl rfl rfl (List.Mem.head _),
                  st_skip 3 41 _ true rfl rfl rfl rfl (List.Mem.head _),
                  st_skip 3 41 _ true rfl rfl rfl rfl (List.Mem.head _),
                  st_plain rfl (op_pick _ _ false _ rfl rfl),
                  trivial⟩ ?_
              exact hl88 _ (Option.some.inj h).symm
      · intro u13 h hl14 hr15
        refine ht_seq ?_
        refine ht_seqR hn (El := [_, _, _, _, _, (28, .v (.bool wide))]) (init := [0, 1, 2, 3, 4]) (fin := [0, 1, 2, 3, 4, 5]) (sps := [⟨[2], [], [5], [(.slot 28)]⟩]) (es' := [(_, _), (_, _), (_, _), (_, _), (_, _), (28, .v (.bool wide))]) (by kernel_rfl) rfl rfl
          ⟨st_plain rfl (op_move _ _ _ _ rfl rfl),
            trivial⟩ ?_
        refine pt_then ?_
        refine ht_cond _ rfl (fun hb16 => ?_) (fun hb16 => ?_)
        · have h := cond_t hb16 h
          refine ht_seqR hn (El := [_, _, _, _, _, _, (9, .v (.int .i64 32))]) (init := [0, 1, 2, 3, 4, 5]) (fin := [0, 1, 2, 3, 6]) (sps := [⟨[], [4], [6], [(.slot 9)]⟩]) (es' := [(_, _), (_, _), (_, _), (_, _), (9, .v (.int .i64 32))]) (by kernel_rfl) rfl rfl
            ⟨st_plain rfl (LOp.drop [_] (op_assign _ _ _ _ rfl rfl)),
              trivial⟩ ?_
          exact hl14 _ (Option.some.inj h).symm
        · have h := cond_f hb16 h
          refine ht_skip ?_
          refine pt_pick [0, 1, 2, 3, 4] (by kernel_rfl) (es' := [(_, _), (_, _), (_, _), (_, _), (_, _)]) rfl ?_
          exact hl14 _ (Option.some.inj h).symm
  · intro u2 h hl3 hr4
    refine cond_some h (fun hg1_3 h => ?_) (fun hg1_3 h => ?_)
    · refine ht_seqR hn (El := [_, _, _, _, (12, .fl .shr 1 (List.map (Value.int .u8) b)), (13, .v (.int .i64 (b.length : Int))), (14, .v (.bool ((decide (600 < (b.length : Int)))))), (15, .v (.bool true)), (16, .v undef), (17, .v undef), (18, .v undef), (19, .v (.bool true))]) (init := [0, 1, 2, 3]) (fin := [0, 1, 2, 3, 11]) (sps := [⟨[0], [], [4], [(.slot 12)]⟩, ⟨[4], [], [5], [(.slot 13)]⟩, ⟨[5], [], [6], [(.slot 14)]⟩, ⟨[6], [], [7], [(.slot 15)]⟩, ⟨[7], [], [8], [(.slot 16)]⟩, ⟨[7], [], [9], [(.slot 17)]⟩, ⟨[7], [], [10], [(.slot 18)]⟩, ⟨[7], [], [11], [(.slot 19)]⟩]) (es' := [(_, _), (_, _), (_, _), (_, _), (19, .v (.bool true))]) (by kernel_rfl) rfl rfl
        ⟨st_plain rfl (op_move _ _ _ _ rfl rfl),
          st_plain rfl (op_len_fl _ _ _ Try.underlying22 rfl (by decide) (map_len _)),
          st_plain rfl (op_bin _ _ _ _ _ rfl rfl rfl),
          st_plain rfl (op_move _ _ _ _ (congrArg (fun b => AV.v (Value.bool b)) hg1_3) rfl),
          st_skip 3 15 _ false rfl rfl rfl rfl (List.Mem.head _),
          st_skip 3 15 _ false rfl rfl rfl rfl (List.Mem.head _),
          st_skip 3 15 _ false rfl rfl rfl rfl (List.Mem.head _),
          st_plain rfl (op_pick _ _ true _ rfl rfl),
          trivial⟩ ?_
      exact hl3 _ (Option.some.inj h).symm
    · refine ht_seqR hn (El := [_, _, _, _, (12, .fl .shr 1 (List.map (Value.int .u8) b)), (13, .v (.int .i64 (b.length : Int))), (14, .v (.bool ((decide (600 < (b.length : Int)))))), (15, .v (.bool false)), (16, .fl .shr 1 (List.map (Value.int .u8) b)), (17, .v (.int .i64 (b.length : Int))), (18, .v (.bool (((b.length : Int) == 0)))), (19, .v (.bool (((b.length : Int) == 0))))]) (init := [0, 1, 2, 3]) (fin := [0, 1, 2, 3, 11]) (sps := [⟨[0], [], [4], [(.slot 12)]⟩, ⟨[4], [], [5], [(.slot 13)]⟩, ⟨[5], [], [6], [(.slot 14)]⟩, ⟨[6], [], [7], [(.slot 15)]⟩, ⟨[7, 0], [], [8], [(.slot 16)]⟩, ⟨[7, 8], [], [9], [(.slot 17)]⟩, ⟨[7, 9], [], [10], [(.slot 18)]⟩, ⟨[7, 10], [], [11], [(.slot 19)]⟩]) (es' := [(_, _), (_, _), (_, _), (_, _), (19, .v (.bool (((b.length : Int) == 0))))]) (by kernel_rfl) rfl rfl
        ⟨st_plain rfl (op_move _ _ _ _ rfl rfl),
          st_plain rfl (op_len_fl _ _ _ Try.underlying22 rfl (by decide) (map_len _)),
          st_plain rfl (op_bin _ _ _ _ _ rfl rfl rfl),
          st_plain rfl (op_move _ _ _ _ (congrArg (fun b => AV.v (Value.bool b)) hg1_3) rfl),
          st_run 3 15 false rfl rfl rfl (List.Mem.head _) (op_move _ _ _ _ rfl rfl),
          st_run 3 15 false rfl rfl rfl (List.Mem.head _) (op_len_fl _ _ _ Try.underlying22 rfl (by decide) (map_len _)),
          st_run 3 15 false rfl rfl rfl (List.Mem.head _) (op_bin _ _ _ _ _ rfl rfl rfl),
          st_plain rfl (op_pick _ _ false _ rfl rfl),
          trivial⟩ ?_
      exact hl3 _ (Option.some.inj h).symm

set_option maxHeartbeats 1000000 in
theorem ok_wherrylaw08_SumsMix (a : (List Int)) (b : (List Int)) (c : (List Int)) (r : Bool) (h : Sh.wherrylaw08_SumsMix a b c = some r) : FnOK Try.prog 6 [.fl .shr 1 (List.map (Value.int .u8) a), .fl .shr 1 (List.map (Value.int .u8) b), .fl .shr 1 (List.map (Value.int .u8) c)] (.v (.bool r)) := by
  unfold Sh.wherrylaw08_SumsMix at h
  refine fn_ok Try.func6 rfl (Nat.le_of_ble_eq_true rfl) rfl rfl fun g0 hn hio => ?_
  refine ht_seq ?_
  refine ht_seqR hn (El := [_, _, _, (6, .v (.bool false))]) (init := [0, 1, 2]) (fin := [0, 1, 2]) (sps := [⟨[], [], [3], [(.slot 6)]⟩]) (es' := [(_, _), (_, _), (_, _)]) (by kernel_rfl) rfl rfl
    ⟨st_plain rfl (op_assign _ _ _ _ rfl rfl),
      trivial⟩ ?_
  refine pt_then ?_
  refine ht_seq ?_
  obtain ⟨v1, hv1, h⟩ := bind_some h
  obtain ⟨v2, hv2, h⟩ := bind_some h
  refine ht_seqR hn (El := [_, _, _, (10, .fl .shr 1 (List.map (Value.int .u8) a)), (11, .v (.int .i64 (a.length : Int))), (12, .fl .shr 1 (List.map (Value.int .u8) b)), (13, .v (.int .i64 (b.length : Int))), (14, .fl .shr 1 (List.map (Value.int .u8) c)), (15, .v (.int .i64 (c.length : Int))), (16, .v (.int .i64 v1)), (17, .v (.int .i64 v2)), (7, .v (.int .i64 v2))]) (init := [0, 1, 2]) (fin := [0, 1, 2, 11]) (sps := [⟨[0], [], [3], [(.slot 10)]⟩, ⟨[3], [], [4], [(.slot 11)]⟩, ⟨[1], [], [5], [(.slot 12)]⟩, ⟨[5], [], [6], [(.slot 13)]⟩, ⟨[2], [], [7], [(.slot 14)]⟩, ⟨[7], [], [8], [(.slot 15)]⟩, ⟨[6, 8], [], [9], [(.slot 16)]⟩, ⟨[4, 9], [], [10], [(.slot 17)]⟩, ⟨[10], [], [11], [(.slot 7)]⟩]) (es' := [(_, _), (_, _), (_, _), (7, .v (.int .i64 v2))]) (by kernel_rfl) rfl rfl
    ⟨st_plain rfl (op_move _ _ _ _ rfl rfl),
      st_plain rfl (op_len_fl _ _ _ Try.underlying22 rfl (by decide) (map_len _)),
      st_plain rfl (op_move _ _ _ _ rfl rfl),
      st_plain rfl (op_len_fl _ _ _ Try.underlying22 rfl (by decide) (map_len _)),
      st_plain rfl (op_move _ _ _ _ rfl rfl),
      st_plain rfl (op_len_fl _ _ _ Try.underlying22 rfl (by decide) (map_len _)),
      st_plain rfl ((Option.some.inj hv1) ▸ op_min _ _ _ _ rfl rfl),
      st_plain rfl ((Option.some.inj hv2) ▸ op_min _ _ _ _ rfl rfl),
      st_plain rfl (op_assign _ _ _ _ rfl rfl),
      trivial⟩ ?_
  refine pt_then ?_
  refine ht_seq ?_
  refine ht_seq ?_
  refine ht_seqR hn (El := [_, _, _, _, (18, .v (.int .i64 v2)), (19, .v (.bool ((decide (600 < v2)))))]) (init := [0, 1, 2, 3]) (fin := [0, 1, 2, 3, 5]) (sps := [⟨[3], [], [4], [(.slot 18)]⟩, ⟨[4], [], [5], [(.slot 19)]⟩]) (es' := [(_, _), (_, _), (_, _), (_, _), (19, .v (.bool ((decide (600 < v2)))))]) (by kernel_rfl) rfl rfl
    ⟨st_plain rfl (op_move _ _ _ _ rfl rfl),
      st_plain rfl (op_bin _ _ _ _ _ rfl rfl rfl),
      trivial⟩ ?_
  refine pt_then ?_
  refine ht_cond _ rfl (fun hb3 => ?_) (fun hb3 => ?_)
  · have h := cond_t hb3 h
    refine ht_seq ?_
    refine ht_seqR hn (El := [_, _, _, _, _, (6, .v (.bool true))]) (init := [0, 1, 2, 3, 4]) (fin := [5]) (sps := [⟨[], [], [5], [(.slot 6)]⟩]) (es' := [(6, .v (.bool true))]) (by kernel_rfl) rfl rfl
      ⟨st_plain rfl (op_assign _ _ _ _ rfl rfl),
        trivial⟩ ?_
    refine pt_then ?_
    refine ht_ret ?_
    refine pt_r_then ?_
    obtain rfl := Option.some.inj h
    exact pt_ret hio rfl (.tmp _ _ .nil) rfl rfl
  · have h := cond_f hb3 h
    refine ht_skip ?_
    refine pt_then ?_
    refine ht_seq ?_
    refine ht_seqR hn (El := [_, _, _, _, _, (8, .v (.slice none 0 0))]) (init := [0, 1, 2, 3, 4]) (fin := [0, 1, 2, 3, 5]) (sps := [⟨[], [], [5], [(.slot 8)]⟩]) (es' := [(_, _), (_, _), (_, _), (_, _), (8, .v (.slice none 0 0))]) (by kernel_rfl) rfl rfl
      ⟨st_plain rfl (op_assign _ _ _ _ rfl rfl),
        trivial⟩ ?_
    refine pt_then ?_
    refine ht_seq ?_
    refine ht_seq ?_
    refine ht_seqR hn (El := [_, _, _, _, _, (9, .v (.int .i64 0))]) (init := [0, 1, 2, 3, 4]) (fin := [0, 1, 2, 3, 4, 5]) (sps := [⟨[], [], [5], [(.slot 9)]⟩]) (es' := [(_, _), (_, _), (_, _), (_, _), (_, _), (9, .v (.int .i64 0))]) (by kernel_rfl) rfl rfl
      ⟨st_plain rfl (op_assign _ _ _ _ rfl rfl),
        trivial⟩ ?_
    refine pt_then ?_
    refine ht_sub (fs := [(0, .fl .shr 1 (List.map (Value.int .u8) a)), (1, .fl .shr 1 (List.map (Value.int .u8) b)), (2, .fl .shr 1 (List.map (Value.int .u8) c)), (7, .v (.int .i64 v2)), (8, .fl (.own 5) 1 (List.map (Value.int .u8) [])), (9, .v (.int .i64 0))]) (.same _ (.same _ (.same _ (.same _ (.sub _ (sub_nil 5 1) rfl (.same _ .nil)))))) ?_
    refine ht_loopS h (fun ((s18, s19) : (List Int) × Int) => [(0, .fl .shr 1 (List.map (Value.int .u8) a)), (1, .fl .shr 1 (List.map (Value.int .u8) b)), (2, .fl .shr 1 (List.map (Value.int .u8) c)), (7, .v (.int .i64 v2)), (8, .fl (.own 5) 1 (List.map (Value.int .u8) s18)), (9, .v (.int .i64 s19))]) (fun (s21 : (List Int)) => [(0, .fl .shr 1 (List.map (Value.int .u8) a)), (1, .fl .shr 1 (List.map (Value.int .u8) b)), (2, .fl .shr 1 (List.map (Value.int .u8) c)), (7, .v (.int .i64 v2)), (8, .fl (.own 5) 1 (List.map (Value.int .u8) s21))]) ?_ ?_
    · rintro s21 h
      refine pt_then ?_
      refine ht_seq ?_
      refine ht_joinS h (fun (s48 : Bool) => [(6, .v (.bool s48))]) ?_ ?_
      · rintro s48 h
        refine pt_then ?_
        refine ht_ret ?_
        obtain rfl := Option.some.inj h
        exact pt_ret hio rfl (.tmp _ _ .nil) rfl rfl
      · intro u49 h hl50 hr51
        obtain ⟨v29, hv29, h⟩ := bind_some h
        obtain ⟨v30, hv30, h⟩ := bind_some h
        obtain ⟨v31, hv31, h⟩ := bind_some h
        obtain ⟨v32, hv32, h⟩ := bind_some h
        obtain ⟨v33, hv33, h⟩ := bind_some h
        obtain ⟨v34, hv34, h⟩ := bind_some h
        obtain ⟨v35, hv35, h⟩ := bind_some h
        obtain ⟨v36, hv36, h⟩ := bind_some h
        obtain ⟨v37, hv37, h⟩ := bind_some h
        refine cond_some h (fun hg9_17 h => ?_) (fun hg9_17 h => ?_)
        · obtain ⟨v38, hv38, h⟩ := bind_some h
          obtain ⟨v39, hv39, h⟩ := bind_some h
          obtain ⟨v40, hv40, h⟩ := bind_some h
          obtain ⟨v41, hv41, h⟩ := bind_some h
          obtain ⟨v42, hv42, h⟩ := bind_some h
          obtain ⟨v43, hv43, h⟩ := bind_some h
          obtain ⟨v44, hv44, h⟩ := bind_some h
          obtain ⟨v45, hv45, h⟩ := bind_some h
          obtain ⟨v46, hv46, h⟩ := bind_some h
          refine cond_some h (fun hg9_36 h => ?_) (fun hg9_36 h => ?_)
          · obtain ⟨v47, hv47, h⟩ := bind_some h
            refine ht_anyR (by kernel_rfl) hn (El := (_ :: _ :: _ :: _ :: _ :: (42, .same (.slot 8)) :: (43, .v (.int .i64 v29)) :: (44, .fl .shr 1 (List.map (Value.int .u8) a)) :: (45, .v (.int .i64 v2)) :: (46, .fl .shr 1 (List.map (Value.int .u8) v30)) :: (47, .v (.int .i64 v31)) :: (48, .fl .shr 1 (List.map (Value.int .u8) b)) :: (49, .v (.int .i64 v2)) :: (50, .fl .shr 1 (List.map (Value.int .u8) v32)) :: (51, .v (.int .i64 v33)) :: (52, .v (.int .i64 v34)) :: (53, .fl .shr 1 (List.map (Value.int .u8) c)) :: (54, .v (.int .i64 v2)) :: (55, .fl .shr 1 (List.map (Value.int .u8) v35)) :: (56, .v (.int .i64 v36)) :: (57, .v (.int .i64 v37)) :: (58, .v (.bool (v29 == v37))) :: (59, .v (.bool true)) :: (60, .fl (.own 5) 1 (List.map (Value.int .u8) s21)) :: (61, .v (.int .i64 v38)) :: (62, .fl .shr 1 (List.map (Value.int .u8) a)) :: (63, .v (.int .i64 v2)) :: (64, .fl .shr 1 (List.map (Value.int .u8) v39)) :: (65, .v (.int .i64 v40)) :: (66, .fl .shr 1 (List.map (Value.int .u8) b)) :: (67, .v (.int .i64 v2)) :: (68, .fl .shr 1 (List.map (Value.int .u8) v41)) :: (69, .v (.int .i64 v42)) :: (70, .v (.int .i64 v43)) :: (71, .fl .shr 1 (List.map (Value.int .u8) c)) :: (72, .v (.int .i64 v2)) :: (73, .fl .shr 1 (List.map (Value.int .u8) v44)) :: (74, .v (.int .i64 v45)) :: (75, .v (.int .i64 v46)) :: (76, .v (.bool (v38 == v46))) :: (77, .v (.bool (v38 == v46))) :: (78, .v (.bool true)) :: (79, .v (.bool v47)) :: (80, .v (.bool v47)) :: (6, .v (.bool v47)) :: [])) (init := [0, 1, 2, 3, 4]) (fin := [44]) (sps := (⟨[4], [], [5], [(.slot 42)]⟩ :: ⟨[5, 4], [], [6], [(.slot 43)]⟩ :: ⟨[0], [], [7], [(.slot 44)]⟩ :: ⟨[3], [], [8], [(.slot 45)]⟩ :: ⟨[7, 8], [], [9], [(.slot 46)]⟩ :: ⟨[9], [], [10], [(.slot 47)]⟩ :: ⟨[1], [], [11], [(.slot 48)]⟩ :: ⟨[3], [], [12], [(.slot 49)]⟩ :: ⟨[11, 12], [], [13], [(.slot 50)]⟩ :: ⟨[13], [], [14], [(.slot 51)]⟩ :: ⟨[10, 14], [], [15], [(.slot 52)]⟩ :: ⟨[2], [], [16], [(.slot 53)]⟩ :: ⟨[3], [], [17], [(.slot 54)]⟩ :: ⟨[16, 17], [], [18], [(.slot 55)]⟩ :: ⟨[18], [], [19], [(.slot 56)]⟩ :: ⟨[15, 19], [], [20], [(.slot 57)]⟩ :: ⟨[6, 20], [], [21], [(.slot 58)]⟩ :: ⟨[21], [], [22], [(.slot 59)]⟩ :: ⟨[22], [5, 4], [23], [(.slot 60)]⟩ :: ⟨[22, 23], [], [24], [(.slot 61)]⟩ :: ⟨[22, 0], [], [25], [(.slot 62)]⟩ :: ⟨[22, 3], [], [26], [(.slot 63)]⟩ :: ⟨[22, 25, 26], [], [27], [(.slot 64)]⟩ :: ⟨[22, 27], [], [28], [(.slot 65)]⟩ :: ⟨[22, 1], [], [29], [(.slot 66)]⟩ :: ⟨[22, 3], [], [30], [(.slot 67)]⟩ :: ⟨[22, 29, 30], [], [31], [(.slot 68)]⟩ :: ⟨[22, 31], [], [32], [(.slot 69)]⟩ :: ⟨[22, 28, 32], [], [33], [(.slot 70)]⟩ :: ⟨[22, 2], [], [34], [(.slot 71)]⟩ :: ⟨[22, 3], [], [35], [(.slot 72)]⟩ :: ⟨[22, 34, 35], [], [36], [(.slot 73)]⟩ :: ⟨[22, 36], [], [37], [(.slot 74)]⟩ :: ⟨[22, 33, 37], [], [38], [(.slot 75)]⟩ :: ⟨[22, 24, 38], [], [39], [(.slot 76)]⟩ :: ⟨[22, 39], [], [40], [(.slot 77)]⟩ :: ⟨[40], [], [41], [(.slot 78)]⟩ :: ⟨[41], [], [42], [(.slot 79)]⟩ :: ⟨[41, 42], [], [43], [(.slot 80)]⟩ :: ⟨[43], [], [44], [(.slot 6)]⟩ :: [])) (es' := [(6, .v (.bool v47))]) (by kernel_rfl) rfl rfl
              ⟨st_plain rfl (op_move _ _ _ _ rfl rfl),
                st_plain rfl (op_call _ _ 14 _ _ rfl Try.call14 rfl (ok_sums_Short s21 _ hv29) rfl rfl),
                st_plain rfl (op_move _ _ _ _ rfl rfl),
                st_plain rfl (op_move _ _ _ _ rfl rfl),
                st_plain rfl (op_sl _ _ _ 0 v2 _ Try.underlying22 sz5 rfl rfl rfl ⟨_, rfl⟩ hv30),
                st_plain rfl (op_call _ _ 14 _ _ rfl Try.call14 rfl (ok_sums_Short v30 _ hv31) rfl rfl),
                st_plain rfl (op_move _ _ _ _ rfl rfl),
                st_plain rfl (op_move _ _ _ _ rfl rfl),
                st_plain rfl (op_sl _ _ _ 0 v2 _ Try.underlying22 sz5 rfl rfl rfl ⟨_, rfl⟩ hv32),
                st_plain rfl (op_call _ _ 14 _ _ rfl Try.call14 rfl (ok_sums_Short v32 _ hv33) rfl rfl),
                st_plain rfl (op_bin _ _ _ _ _ rfl rfl (ibind (f := Value.int .i64) (Option.some.inj hv34))),
                st_plain rfl (op_move _ _ _ _ rfl rfl),
                st_plain rfl (op_move _ _ _ _ rfl rfl),
                st_plain rfl (op_sl _ _ _ 0 v2 _ Try.underlying22 sz5 rfl rfl rfl ⟨_, rfl⟩ hv35),
                st_plain rfl (op_call _ _ 14 _ _ rfl Try.call14 rfl (ok_sums_Short v35 _ hv36) rfl rfl),
                st_plain rfl (op_bin _ _ _ _ _ rfl rfl (ibind (f := Value.int .i64) (Option.some.inj hv37))),
                st_plain rfl (op_bin _ _ _ _ _ rfl rfl rfl),
                st_plain rfl (op_move _ _ _ _ (congrArg (fun b => AV.v (Value.bool b)) hg9_17) rfl),
                st_run 17 59 true rfl rfl rfl (List.Mem.head _) (LOp.drop [_] (op_move_take _ _ _ _ rfl)),
                st_run 17 59 true rfl rfl rfl (List.Mem.head _) (op_call _ _ 16 _ _ rfl Try.call16 rfl (ok_sums_Long s21 _ hv38) rfl rfl),
                st_run 17 59 true rfl rfl rfl (List.Mem.head _) (op_move _ _ _ _ rfl rfl),
                st_run 17 59 true rfl rfl rfl (List.Mem.head _) (op_move _ _ _ _ rfl rfl),
                st_run 17 59 true rfl rfl rfl (List.Mem.head _) (op_sl _ _ _ 0 v2 _ Try.underlying22 sz5 rfl rfl rfl ⟨_, rfl⟩ hv39),
                st_run 17 59 true rfl rfl rfl (List.Mem.head _) (op_call _ _ 16 _ _ rfl Try.call16 rfl (ok_sums_Long v39 _ hv40) rfl rfl),
                st_run 17 59 true rfl rfl rfl (List.Mem.head _) (op_move _ _ _ _ rfl rfl),
                st_run 17 59 true rfl rfl rfl (List.Mem.head _) (op_move _ _ _ _ rfl rfl),
                st_run 17 59 true rfl rfl rfl (List.Mem.head _) (op_sl _ _ _ 0 v2 _ Try.underlying22 sz5 rfl rfl rfl ⟨_, rfl⟩ hv41),
                st_run 17 59 true rfl rfl rfl (List.Mem.head _) (op_call _ _ 16 _ _ rfl Try.call16 rfl (ok_sums_Long v41 _ hv42) rfl rfl),
                st_run 17 59 true rfl rfl rfl (List.Mem.head _) (op_bin _ _ _ _ _ rfl rfl (ibind (f := Value.int .i64) (Option.some.inj hv43))),
                st_run 17 59 true rfl rfl rfl (List.Mem.head _) (op_move _ _ _ _ rfl rfl),
                st_run 17 59 true rfl rfl rfl (List.Mem.head _) (op_move _ _ _ _ rfl rfl),
                st_run 17 59 true rfl rfl rfl (List.Mem.head _) (op_sl _ _ _ 0 v2 _ Try.underlying22 sz5 rfl rfl rfl ⟨_, rfl⟩ hv44),
                st_run 17 59 true rfl rfl rfl (List.Mem.head _) (op_call _ _ 16 _ _ rfl Try.call16 rfl (ok_sums_Long v44 _ hv45) rfl rfl),
                st_run 17 59 true rfl rfl rfl (List.Mem.head _) (op_bin _ _ _ _ _ rfl rfl (ibind (f := Value.int .i64) (Option.some.inj hv46))),
                st_run 17 59 true rfl rfl rfl (List.Mem.head _) (op_bin _ _ _ _ _ rfl rfl rfl),
                st_plain rfl (op_pick _ _ true _ rfl rfl),
                st_plain rfl (op_move _ _ _ _ (congrArg (fun b => AV.v (Value.bool b)) hg9_36) rfl),
                st_run 36 78 true rfl rfl rfl (List.Mem.head _) (op_call _ _ 12 _ _ rfl Try.call12 rfl (ok_wherrylaw08_wakes  _ hv47) rfl rfl),
                st_plain rfl (op_pick _ _ true _ rfl rfl),
                st_plain rfl (op_assign _ _ _ _ rfl rfl),
                trivial⟩ ?_
            exact hl50 _ (Option.some.inj h).symm
          · refine ht_anyR (by kernel_rfl) hn (El := (_ :: _ :: _ :: _ :: _ :: (42, .same (.slot 8)) :: (43, .v (.int .i64 v29)) :: (44, .fl .shr 1 (List.map (Value.int .u8) a)) :: (45, .v (.int .i64 v2)) :: (46, .fl .shr 1 (List.map (Value.int .u8) v30)) :: (47, .v (.int .i64 v31)) :: (48, .fl .shr 1 (List.map (Value.int .u8) b)) :: (49, .v (.int .i64 v2)) :: (50, .fl .shr 1 (List.map (Value.int .u8) v32)) :: (51, .v (.int .i64 v33)) :: (52, .v (.int .i64 v34)) :: (53, .fl .shr 1 (List.map (Value.int .u8) c)) :: (54, .v (.int .i64 v2)) :: (55, .fl .shr 1 (List.map (Value.int .u8) v35)) :: (56, .v (.int .i64 v36)) :: (57, .v (.int .i64 v37)) :: (58, .v (.bool (v29 == v37))) :: (59, .v (.bool true)) :: (60, .fl (.own 5) 1 (List.map (Value.int .u8) s21)) :: (61, .v (.int .i64 v38)) :: (62, .fl .shr 1 (List.map (Value.int .u8) a)) :: (63, .v (.int .i64 v2)) :: (64, .fl .shr 1 (List.map (Value.int .u8) v39)) :: (65, .v (.int .i64 v40)) :: (66, .fl .shr 1 (List.map (Value.int .u8) b)) :: (67, .v (.int .i64 v2)) :: (68, .fl .shr 1 (List.map (Value.int .u8) v41)) :: (69, .v (.int .i64 v42)) :: (70, .v (.int .i64 v43)) :: (71, .fl .shr 1 (List.map (Value.int .u8) c)) :: (72, .v (.int .i64 v2)) :: (73, .fl .shr 1 (List.map (Value.int .u8) v44)) :: (74, .v (.int .i64 v45)) :: (75, .v (.int .i64 v46)) :: (76, .v (.bool (v38 == v46))) :: (77, .v (.bool (v38 == v46))) :: (78, .v (.bool false)) :: (79, .v undef) :: (80, .v (.bool false)) :: (6, .v (.bool false)) :: [])) (init := [0, 1, 2, 3, 4]) (fin := [44]) (sps := (⟨[4], [], [5], [(.slot 42)]⟩ :: ⟨[5, 4], [], [6], [(.slot 43)]⟩ :: ⟨[0], [], [7], [(.slot 44)]⟩ :: ⟨[3], [], [8], [(.slot 45)]⟩ :: ⟨[7, 8], [], [9], [(.slot 46)]⟩ :: ⟨[9], [], [10], [(.slot 47)]⟩ :: ⟨[1], [], [11], [(.slot 48)]⟩ :: ⟨[3], [], [12], [(.slot 49)]⟩ :: ⟨[11, 12], [], [13], [(.slot 50)]⟩ :: ⟨[13], [], [14], [(.slot 51)]⟩ :: ⟨[10, 14], [], [15], [(.slot 52)]⟩ :: ⟨[2], [], [16], [(.slot 53)]⟩ :: ⟨[3], [], [17], [(.slot 54)]⟩ :: ⟨[16, 17], [], [18], [(.slot 55)]⟩ :: ⟨[18], [], [19], [(.slot 56)]⟩ :: ⟨[15, 19], [], [20], [(.slot 57)]⟩ :: ⟨[6, 20], [], [21], [(.slot 58)]⟩ :: ⟨[21], [], [22], [(.slot 59)]⟩ :: ⟨[22], [5, 4], [23], [(.slot 60)]⟩ :: ⟨[22, 23], [], [24], [(.slot 61)]⟩ :: ⟨[22, 0], [], [25], [(.slot 62)]⟩ :: ⟨[22, 3], [], [26], [(.slot 63)]⟩ :: ⟨[22, 25, 26], [], [27], [(.slot 64)]⟩ :: ⟨[22, 27], [], [28], [(.slot 65)]⟩ :: ⟨[22, 1], [], [29], [(.slot 66)]⟩ :: ⟨[22, 3], [], [30], [(.slot 67)]⟩ :: ⟨[22, 29, 30], [], [31], [(.slot 68)]⟩ :: ⟨[22, 31], [], [32], [(.slot 69)]⟩ :: ⟨[22, 28, 32], [], [33], [(.slot 70)]⟩ :: ⟨[22, 2], [], [34], [(.slot 71)]⟩ :: ⟨[22, 3], [], [35], [(.slot 72)]⟩ :: ⟨[22, 34, 35], [], [36], [(.slot 73)]⟩ :: ⟨[22, 36], [], [37], [(.slot 74)]⟩ :: ⟨[22, 33, 37], [], [38], [(.slot 75)]⟩ :: ⟨[22, 24, 38], [], [39], [(.slot 76)]⟩ :: ⟨[22, 39], [], [40], [(.slot 77)]⟩ :: ⟨[40], [], [41], [(.slot 78)]⟩ :: ⟨[41], [], [42], [(.slot 79)]⟩ :: ⟨[41], [], [43], [(.slot 80)]⟩ :: ⟨[43], [], [44], [(.slot 6)]⟩ :: [])) (es' := [(6, .v (.bool false))]) (by kernel_rfl) rfl rfl
              ⟨st_plain rfl (op_move _ _ _ _ rfl rfl),
                st_plain rfl (op_call _ _ 14 _ _ rfl Try.call14 rfl (ok_sums_Short s21 _ hv29) rfl rfl),
                st_plain rfl (op_move _ _ _ _ rfl rfl),
                st_plain rfl (op_move _ _ _ _ rfl rfl),
                st_plain rfl (op_sl _ _ _ 0 v2 _ Try.underlying22 sz5 rfl rfl rfl ⟨_, rfl⟩ hv30),
                st_plain rfl (op_call _ _ 14 _ _ rfl Try.call14 rfl (ok_sums_Short v30 _ hv31) rfl rfl),
                st_plain rfl (op_move _ _ _ _ rfl rfl),
                st_plain rfl (op_move _ _ _ _ rfl rfl),
                st_plain rfl (op_sl _ _ _ 0 v2 _ Try.underlying22 sz5 rfl rfl rfl ⟨_, rfl⟩ hv32),
                st_plain rfl (op_call _ _ 14 _ _ rfl Try.call14 rfl (ok_sums_Short v32 _ hv33) rfl rfl),
                st_plain rfl (op_bin _ _ _ _ _ rfl rfl (ibind (f := Value.int .i64) (Option.some.inj hv34))),
                st_plain rfl (op_move _ _ _ _ rfl rfl),
                st_plain rfl (op_move _ _ _ _ rfl rfl),
                st_plain rfl (op_sl _ _ _ 0 v2 _ Try.underlying22 sz5 rfl rfl rfl ⟨_, rfl⟩ hv35),
                st_plain rfl (op_call _ _ 14 _ _ rfl Try.call14 rfl (ok_sums_Short v35 _ hv36) rfl rfl),
                st_plain rfl (op_bin _ _ _ _ _ rfl rfl (ibind (f := Value.int .i64) (Option.some.inj hv37))),
                st_plain rfl (op_bin _ _ _ _ _ rfl rfl rfl),
                st_plain rfl (op_move _ _ _ _ (congrArg (fun b => AV.v (Value.bool b)) hg9_17) rfl),
                st_run 17 59 true rfl rfl rfl (List.Mem.head _) (LOp.drop [_] (op_move_take _ _ _ _ rfl)),
                st_run 17 59 true rfl rfl rfl (List.Mem.head _) (op_call _ _ 16 _ _ rfl Try.call16 rfl (ok_sums_Long s21 _ hv38) rfl rfl),
                st_run 17 59 true rfl rfl rfl (List.Mem.head _) (op_move _ _ _ _ rfl rfl),
                st_run 17 59 true rfl rfl rfl (List.Mem.head _) (op_move _ _ _ _ rfl rfl),
                st_run 17 59 true rfl rfl rfl (List.Mem.head _) (op_sl _ _ _ 0 v2 _ Try.underlying22 sz5 rfl rfl rfl ⟨_, rfl⟩ hv39),
                st_run 17 59 true rfl rfl rfl (List.Mem.head _) (op_call _ _ 16 _ _ rfl Try.call16 rfl (ok_sums_Long v39 _ hv40) rfl rfl),
                st_run 17 59 true rfl rfl rfl (List.Mem.head _) (op_move _ _ _ _ rfl rfl),
                st_run 17 59 true rfl rfl rfl (List.Mem.head _) (op_move _ _ _ _ rfl rfl),
                st_run 17 59 true rfl rfl rfl (List.Mem.head _) (op_sl _ _ _ 0 v2 _ Try.underlying22 sz5 rfl rfl rfl ⟨_, rfl⟩ hv41),
                st_run 17 59 true rfl rfl rfl (List.Mem.head _) (op_call _ _ 16 _ _ rfl Try.call16 rfl (ok_sums_Long v41 _ hv42) rfl rfl),
                st_run 17 59 true rfl rfl rfl (List.Mem.head _) (op_bin _ _ _ _ _ rfl rfl (ibind (f := Value.int .i64) (Option.some.inj hv43))),
                st_run 17 59 true rfl rfl rfl (List.Mem.head _) (op_move _ _ _ _ rfl rfl),
                st_run 17 59 true rfl rfl rfl (List.Mem.head _) (op_move _ _ _ _ rfl rfl),
                st_run 17 59 true rfl rfl rfl (List.Mem.head _) (op_sl _ _ _ 0 v2 _ Try.underlying22 sz5 rfl rfl rfl ⟨_, rfl⟩ hv44),
                st_run 17 59 true rfl rfl rfl (List.Mem.head _) (op_call _ _ 16 _ _ rfl Try.call16 rfl (ok_sums_Long v44 _ hv45) rfl rfl),
                st_run 17 59 true rfl rfl rfl (List.Mem.head _) (op_bin _ _ _ _ _ rfl rfl (ibind (f := Value.int .i64) (Option.some.inj hv46))),
                st_run 17 59 true rfl rfl rfl (List.Mem.head _) (op_bin _ _ _ _ _ rfl rfl rfl),
                st_plain rfl (op_pick _ _ true _ rfl rfl),
                st_plain rfl (op_move _ _ _ _ (congrArg (fun b => AV.v (Value.bool b)) hg9_36) rfl),
                st_skip 36 78 _ true rfl rfl rfl rfl (List.Mem.head _),
                st_plain rfl (op_pick _ _ false _ rfl rfl),
                st_plain rfl (op_assign _ _ _ _ rfl rfl),
                trivial⟩ ?_
            exact hl50 _ (Option.some.inj h).symm
        · refine ht_anyR (by kernel_rfl) hn (El := (_ :: _ :: _ :: _ :: _ :: (42, .same (.slot 8)) :: (43, .v (.int .i64 v29)) :: (44, .fl .shr 1 (List.map (Value.int .u8) a)) :: (45, .v (.int .i64 v2)) :: (46, .fl .shr 1 (List.map (Value.int .u8) v30)) :: (47, .v (.int .i64 v31)) :: (48, .fl .shr 1 (List.map (Value.int .u8) b)) :: (49, .v (.int .i64 v2)) :: (50, .fl .shr 1 (List.map (Value.int .u8) v32)) :: (51, .v (.int .i64 v33)) :: (52, .v (.int .i64 v34)) :: (53, .fl .shr 1 (List.map (Value.int .u8) c)) :: (54, .v (.int .i64 v2)) :: (55, .fl .shr 1 (List.map (Value.int .u8) v35)) :: (56, .v (.int .i64 v36)) :: (57, .v (.int .i64 v37)) :: (58, .v (.bool (v29 == v37))) :: (59, .v (.bool false)) :: (60, .v undef) :: (61, .v undef) :: (62, .v undef) :: (63, .v undef) :: (64, .v undef) :: (65, .v undef) :: (66, .v undef) :: (67, .v undef) :: (68, .v undef) :: (69, .v undef) :: (70, .v undef) :: (71, .v undef) :: (72, .v undef) :: (73, .v undef) :: (74, .v undef) :: (75, .v undef) :: (76, .v undef) :: (77, .v (.bool false)) :: (78, .v (.bool false)) :: (79, .v undef) :: (80, .v (.bool false)) :: (6, .v (.bool false)) :: [])) (init := [0, 1, 2, 3, 4]) (fin := [44]) (sps := (⟨[4], [], [5], [(.slot 42)]⟩ :: ⟨[5, 4], [], [6], [(.slot 43)]⟩ :: ⟨[0], [], [7], [(.slot 44)]⟩ :: ⟨[3], [], [8], [(.slot 45)]⟩ :: ⟨[7, 8], [], [9], [(.slot 46)]⟩ :: ⟨[9], [], [10], [(.slot 47)]⟩ :: ⟨[1], [], [11], [(.slot 48)]⟩ :: ⟨[3], [], [12], [(.slot 49)]⟩ :: ⟨[11, 12], [], [13], [(.slot 50)]⟩ :: ⟨[13], [], [14], [(.slot 51)]⟩ :: ⟨[10, 14], [], [15], [(.slot 52)]⟩ :: ⟨[2], [], [16], [(.slot 53)]⟩ :: ⟨[3], [], [17], [(.slot 54)]⟩ :: ⟨[16, 17], [], [18], [(.slot 55)]⟩ :: ⟨[18], [], [19], [(.slot 56)]⟩ :: ⟨[15, 19], [], [20], [(.slot 57)]⟩ :: ⟨[6, 20], [], [21], [(.slot 58)]⟩ :: ⟨[21], [], [22], [(.slot 59)]⟩ :: ⟨[22], [], [23], [(.slot 60)]⟩ :: ⟨[22], [], [24], [(.slot 61)]⟩ :: ⟨[22], [], [25], [(.slot 62)]⟩ :: ⟨[22], [], [26], [(.slot 63)]⟩ :: ⟨[22], [], [27], [(.slot 64)]⟩ :: ⟨[22], [], [28], [(.slot 65)]⟩ :: ⟨[22], [], [29], [(.slot 66)]⟩ :: ⟨[22], [], [30], [(.slot 67)]⟩ :: ⟨[22], [], [31], [(.slot 68)]⟩ :: ⟨[22], [], [32], [(.slot 69)]⟩ :: ⟨[22], [], [33], [(.slot 70)]⟩ :: ⟨[22], [], [34], [(.slot 71)]⟩ :: ⟨[22], [], [35], [(.slot 72)]⟩ :: ⟨[22], [], [36], [(.slot 73)]⟩ :: ⟨[22], [], [37], [(.slot 74)]⟩ :: ⟨[22], [], [38], [(.slot 75)]⟩ :: ⟨[22], [], [39], [(.slot 76)]⟩ :: ⟨[22], [], [40], [(.slot 77)]⟩ :: ⟨[40], [], [41], [(.slot 78)]⟩ :: ⟨[41], [], [42], [(.slot 79)]⟩ :: ⟨[41], [], [43], [(.slot 80)]⟩ :: ⟨[43], [], [44], [(.slot 6)]⟩ :: [])) (es' := [(6, .v (.bool false))]) (by kernel_rfl) rfl rfl
            ⟨st_plain rfl (op_move _ _ _ _ rfl rfl),
              st_plain rfl (op_call _ _ 14 _ _ rfl Try.call14 rfl (ok_sums_Short s21 _ hv29) rfl rfl),
              st_plain rfl (op_move _ _ _ _ rfl rfl),
              st_plain rfl (op_move _ _ _ _ rfl rfl),
              st_plain rfl (op_sl _ _ _ 0 v2 _ Try.underlying22 sz5 rfl rfl rfl ⟨_, rfl⟩ hv30),
              st_plain rfl (op_call _ _ 14 _ _ rfl Try.call14 rfl (ok_sums_Short v30 _ hv31) rfl rfl),
              st_plain rfl (op_move _ _ _ _ rfl rfl),
              st_plain rfl (op_move _ _ _ _ rfl rfl),
              st_plain rfl (op_sl _ _ _ 0 v2 _ Try.underlying22 sz5 rfl rfl rfl ⟨_, rfl⟩ hv32),
              st_plain rfl (op_call _ _ 14 _ _ rfl Try.call14 rfl (ok_sums_Short v32 _ hv33) rfl rfl),
              st_plain rfl (op_bin _ _ _ _ _ rfl rfl (ibind (f := Value.int .i64) (Option.some.inj hv34))),
              st_plain rfl (op_move _ _ _ _ rfl rfl),
              st_plain rfl (op_move _ _ _ _ rfl rfl),
              st_plain rfl (op_sl _ _ _ 0 v2 _ Try.underlying22 sz5 rfl rfl rfl ⟨_, rfl⟩ hv35),
              st_plain rfl (op_call _ _ 14 _ _ rfl Try.call14 rfl (ok_sums_Short v35 _ hv36) rfl rfl),
              st_plain rfl (op_bin _ _ _ _ _ rfl rfl (ibind (f := Value.int .i64) (Option.some.inj hv37))),
              st_plain rfl (op_bin _ _ _ _ _ rfl rfl rfl),
              st_plain rfl (op_move _ _ _ _ (congrArg (fun b => AV.v (Value.bool b)) hg9_17) rfl),
              st_skip 17 59 _ true rfl rfl rfl rfl (List.Mem.head _),
              st_skip 17 59 _ true rfl rfl rfl rfl (List.Mem.head _),
              st_skip 17 59 _ true rfl rfl rfl rfl (List.Mem.head _),
              st_skip 17 59 _ true rfl rfl rfl rfl (List.Mem.head _),
              st_skip 17 59 _ true rfl rfl rfl rfl (List.Mem.head _),
              st_skip 17 59 _ true rfl rfl rfl rfl (List.Mem.head _),
              st_skip 17 59 _ true rfl rfl rfl rfl (List.Mem.head _),
              st_skip 17 59 _ true rfl rfl rfl rfl (List.Mem.head _),
              st_skip 17 59 _ true rfl rfl rfl rfl (List.Mem.head _),
              st_skip 17 59 _ true rfl rfl rfl rfl (List.Mem.head _),
              st_skip 17 59 _ true rfl rfl rfl rfl (List.Mem.head _),
              st_skip 17 59 _ true rfl rfl rfl rfl (List.Mem.head _),
              st_skip 17 59 _ true rfl rfl rfl rfl (List.Mem.head _),
              st_skip 17 59 _ true rfl rfl rfl rfl (List.Mem.head _),
              st_skip 17 59 _ true rfl rfl rfl rfl (List.Mem.head _),
              st_skip 17 59 _ true rfl rfl rfl rfl (List.Mem.head _),
              st_skip 17 59 _ true rfl rfl rfl rfl (List.Mem.head _),
              st_plain rfl (op_pick _ _ false _ rfl rfl),
              st_plain rfl (op_move _ _ _ _ rfl rfl),
              st_skip 36 78 _ true rfl rfl rfl rfl (List.Mem.head _),
              st_plain rfl (op_pick _ _ false _ rfl rfl),
              st_plain rfl (op_assign _ _ _ _ rfl rfl),
              trivial⟩ ?_
          exact hl50 _ (Option.some.inj h).symm
    · rintro u22 hl23 hr24 ⟨s18, s19⟩ rr27 h ho25
      refine ht_seq ?_
      refine ht_seq ?_
      refine ht_seqR hn (El := [_, _, _, _, _, _, (20, .v (.int .i64 s19)), (21, .v (.int .i64 v2)), (22, .v (.bool ((decide (s19 < v2)))))]) (init := [0, 1, 2, 3, 4, 5]) (fin := [0, 1, 2, 3, 4, 5, 8]) (sps := [⟨[5], [], [6], [(.slot 20)]⟩, ⟨[3], [], [7], [(.slot 21)]⟩, ⟨[6, 7], [], [8], [(.slot 22)]⟩]) (es' := [(_, _), (_, _), (_, _), (_, _), (_, _), (_, _), (22, .v (.bool ((decide (s19 < v2)))))]) (by kernel_rfl) rfl rfl
        ⟨st_plain rfl (op_move _ _ _ _ rfl rfl),
          st_plain rfl (op_move _ _ _ _ rfl rfl),
          st_plain rfl (op_bin _ _ _ _ _ rfl rfl rfl),
          trivial⟩ ?_
      refine pt_then ?_
      refine ht_cond _ rfl (fun hb28 => ?_) (fun hb28 => ?_)
      · have h := cond_t hb28 h
        refine ht_skip ?_
        refine pt_then ?_
        refine ht_seq ?_
        refine ht_block ?_
        obtain ⟨v5, hv5, h⟩ := bind_some h
        obtain ⟨v6, hv6, h⟩ := bind_some h
        obtain ⟨v7, hv7, h⟩ := bind_some h
        obtain ⟨v8, hv8, h⟩ := bind_some h
        obtain ⟨v9, hv9, h⟩ := bind_some h
        obtain ⟨v10, hv10, h⟩ := bind_some h
        obtain ⟨v11, hv11, h⟩ := bind_some h
        obtain ⟨v12, hv12, h⟩ := bind_some h
        obtain ⟨v13, hv13, h⟩ := bind_some h
        refine ht_anyR (by kernel_rfl) hn (El := (_ :: _ :: _ :: _ :: _ :: _ :: _ :: (25, .fl (.own 5) 1 (List.map (Value.int .u8) s18)) :: (26, .fl .shr 1 (List.map (Value.int .u8) a)) :: (27, .v (.int .i64 s19)) :: (28, .eref (.slot 26) (v5 * 1)) :: (29, .v (.int .u8 v6)) :: (30, .fl .shr 1 (List.map (Value.int .u8) b)) :: (31, .v (.int .i64 s19)) :: (32, .eref (.slot 30) (v7 * 1)) :: (33, .v (.int .u8 v8)) :: (34, .v (.int .u8 v9)) :: (35, .fl .shr 1 (List.map (Value.int .u8) c)) :: (36, .v (.int .i64 s19)) :: (37, .eref (.slot 35) (v10 * 1)) :: (38, .v (.int .u8 v11)) :: (39, .v (.int .u8 v12)) :: (40, .fl (.own 5) 1 (List.map (Value.int .u8) [v12])) :: (41, .fl (.own 5) 1 (List.map (Value.int .u8) v13)) :: (25, .any) :: (8, .fl (.own 5) 1 (List.map (Value.int .u8) v13)) :: [])) (init := [0, 1, 2, 3, 4, 5, 6]) (fin := [0, 1, 2, 3, 5, 25]) (sps := (⟨[], [4], [7], [(.slot 25)]⟩ :: ⟨[0], [], [8], [(.slot 26)]⟩ :: ⟨[5], [], [9], [(.slot 27)]⟩ :: ⟨[8, 9], [], [10], [(.slot 28)]⟩ :: ⟨[10, 8], [], [11], [(.slot 29)]⟩ :: ⟨[1], [], [12], [(.slot 30)]⟩ :: ⟨[5], [], [13], [(.slot 31)]⟩ :: ⟨[12, 13], [], [14], [(.slot 32)]⟩ :: ⟨[14, 12], [], [15], [(.slot 33)]⟩ :: ⟨[11, 15], [], [16], [(.slot 34)]⟩ :: ⟨[2], [], [17], [(.slot 35)]⟩ :: ⟨[5], [], [18], [(.slot 36)]⟩ :: ⟨[17, 18], [], [19], [(.slot 37)]⟩ :: ⟨[19, 17], [], [20], [(.slot 38)]⟩ :: ⟨[16, 20], [], [21], [(.slot 39)]⟩ :: ⟨[21], [], [22], [(.slot 40)]⟩ :: ⟨[22], [7], [24, 23], [(.slot 41)]⟩ :: ⟨[], [23], [25], [(.slot 8)]⟩ :: [])) (es' := [(_, _), (_, _), (_, _), (_, _), (_, _), (8, .fl (.own 5) 1 (List.map (Value.int .u8) v13))]) (by kernel_rfl) rfl rfl
          ⟨st_plain rfl (op_move_take _ _ _ _ rfl),
            st_plain rfl (op_move _ _ _ _ rfl rfl),
            st_plain rfl (op_move _ _ _ _ rfl rfl),
            st_plain rfl (op_ix _ _ _ _ _ _ _ _ Try.underlying22 sz5 (by decide) rfl rfl rfl (ix_ok hv5).1 (map_lt (ix_ok hv5).2) rfl),
            st_plain rfl (op_load_e _ _ _ _ _ _ Try.underlying5 rfl rfl rfl (map_get hv6)),
            st_plain rfl (op_move _ _ _ _ rfl rfl),
            st_plain rfl (op_move _ _ _ _ rfl rfl),
            st_plain rfl (op_ix _ _ _ _ _ _ _ _ Try.underlying22 sz5 (by decide) rfl rfl rfl (ix_ok hv7).1 (map_lt (ix_ok hv7).2) rfl),
            st_plain rfl (op_load_e _ _ _ _ _ _ Try.underlying5 rfl rfl rfl (map_get hv8)),
            st_plain rfl (op_bin _ _ _ _ _ rfl rfl (ibind (f := Value.int .u8) (Option.some.inj hv9))),
            st_plain rfl (op_move _ _ _ _ rfl rfl),
            st_plain rfl (op_move _ _ _ _ rfl rfl),
            st_plain rfl (op_ix _ _ _ _ _ _ _ _ Try.underlying22 sz5 (by decide) rfl rfl rfl (ix_ok hv10).1 (map_lt (ix_ok hv10).2) rfl),
            st_plain rfl (op_load_e _ _ _ _ _ _ Try.underlying5 rfl rfl rfl (map_get hv11)),
            st_plain rfl (op_bin _ _ _ _ _ rfl rfl (ibind (f := Value.int .u8) (Option.some.inj hv12))),
            st_plain rfl (op_buildSlice _ _ 1 (.int .u8 0) (List.map (Value.int .u8) [v12]) [(0, .int .u8 v12)] Try.underlying22 sz5 zr5 (fun _ V w o a hv hes => by have e0 := rd_v hv hes (x := .tmp 39) rfl; simp only [List.map_toArray, List.map_cons, List.map_nil, e0]; try rfl) (litfill (by simp [Instr.fill, Value.cells]; rfl) (by simp [List.range, List.range.loop])) (by simp [Value.oneCell']) rfl (by decide) (by decide) (by decide)),
            st_plain rfl (op_app _ _ _ _ _ el22 rfl rfl (map_len _) (map_len _) hv13 ((List.map_append).symm.trans (congrArg (List.map _) (app_eq hv13)))),
            st_plain rfl (op_assign_take _ _ _ _ rfl),
            trivial⟩ ?_
        refine pt_inb ?_
        refine pt_then ?_
        obtain ⟨v14, hv14, h⟩ := bind_some h
        refine ht_seqR hn (El := [_, _, _, _, _, _, (23, .v (.int .i64 s19)), (24, .v (.int .i64 v14)), (9, .v (.int .i64 v14))]) (init := [0, 1, 2, 3, 4, 5]) (fin := [0, 1, 2, 3, 5, 8]) (sps := [⟨[4], [], [6], [(.slot 23)]⟩, ⟨[6], [], [7], [(.slot 24)]⟩, ⟨[7], [4], [8], [(.slot 9)]⟩]) (es' := [(_, _), (_, _), (_, _), (_, _), (_, _), (9, .v (.int .i64 v14))]) (by kernel_rfl) rfl rfl
          ⟨st_plain rfl (op_move _ _ _ _ rfl rfl),
            st_plain rfl (op_bin _ _ _ _ _ rfl rfl (ibind (f := Value.int .i64) (Option.some.inj hv14))),
            st_plain rfl (LOp.drop [_] (op_assign _ _ _ _ rfl rfl)),
            trivial⟩ ?_
        exact pt_next _ (Option.some.inj h).symm rfl
      · have h := cond_f hb28 h
        refine ht_exit ?_
        refine pt_x_then ?_
        refine pt_x_then ?_
        refine pt_x_in ?_
        refine pt_pick [0, 1, 2, 3, 4] (by kernel_rfl) (es' := [(_, _), (_, _), (_, _), (_, _), (_, _)]) rfl ?_
        exact hl23 _ (ho25 _ (Option.some.inj h).symm).symm

end Go.Proofs.Ytcghjjldjfghgaa
