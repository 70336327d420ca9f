/-
  The model's runs are what is told in Lean.
-/
import Derived.Test.YtepjhmgmejpkpaaProg
import Derived.KernelRfl
import Derived.Test.YtepjhmgmejpkpaaSh
set_option linter.unusedVariables false
set_option linter.unusedSimpArgs false
namespace Go.Proofs.Ytepjhmgmejpkpaa
open Go.Abs Go.Abs.Sh

theorem sz3 : (Try.prog.info? 3).map (·.size) = some 1 := by kernel_rfl
theorem zr3 : (Try.prog.info? 3).bind (·.zero) = some (.int .i64 0) := by kernel_rfl
theorem el28 : ElemT Try.prog 28 3 1 8 := ⟨⟨Try.t3, .int .i64 0, Try.underlying28, by kernel_rfl, by kernel_rfl, by kernel_rfl, by kernel_rfl, by decide, by kernel_rfl⟩⟩
theorem za64 : ((Try.prog.info? 64).bind (·.zero)).map (·.cells.toList) = some (List.map (Value.int .i64) (List.replicate 16 (0 : Int))) := by kernel_rfl
theorem sz64 : (Try.prog.info? 64).map (·.size) = some 16 := by kernel_rfl
theorem zr64 : (Try.prog.info? 64).bind (·.zero) = some (.agg #[.int .i64 0, .int .i64 0, .int .i64 0, .int .i64 0, .int .i64 0, .int .i64 0, .int .i64 0, .int .i64 0, .int .i64 0, .int .i64 0, .int .i64 0, .int .i64 0, .int .i64 0, .int .i64 0, .int .i64 0, .int .i64 0]) := by kernel_rfl
theorem zr52 : (Try.prog.info? 52).bind (·.zero) = some (.agg #[.int .i64 0, .int .i64 0, .int .i64 0]) := by kernel_rfl
theorem fs52 : ∀ fs, Try.prog.underlying 52 = some (.struct fs) → fs.toList.map (fun f => (Try.prog.info? f.type).map (·.size)) = ([1, 1, 1] : List Nat).map some := by
  intro fs h
  rw [Try.underlying52] at h
  cases h
  kernel_rfl
theorem sz52 : (Try.prog.info? 52).map (·.size) = some 3 := by kernel_rfl

set_option maxHeartbeats 1000000 in
theorem ok_sym_fixedLen (s : Int) (r : Int) (h : Sh.sym_fixedLen s = some r) : FnOK Try.prog 34 [.v (.int .i64 s)] (.v (.int .i64 r)) := by
  unfold Sh.sym_fixedLen at h
  refine fn_ok Try.func34 rfl (Nat.le_of_ble_eq_true rfl) rfl rfl fun g0 hn hio => ?_
  refine ht_seq ?_
  refine ht_seqR hn (El := [_, (2, .v (.int .i64 0))]) (init := [0]) (fin := [0]) (sps := [⟨[], [], [1], [(.slot 2)]⟩]) (es' := [(_, _)]) (by kernel_rfl) rfl rfl
    ⟨st_plain rfl (op_assign _ _ _ _ rfl rfl),
      trivial⟩ ?_
  refine pt_then ?_
  refine ht_seq ?_
  refine ht_block ?_
  refine ht_seq ?_
  refine ht_seqR hn (El := [_, (4, .v (.int .i64 s)), (5, .v (.bool ((decide (s < 144))))), (3, .v (.bool ((decide (s < 144)))))]) (init := [0]) (fin := [0, 3]) (sps := [⟨[0], [], [1], [(.slot 4)]⟩, ⟨[1], [], [2], [(.slot 5)]⟩, ⟨[2], [], [3], [(.slot 3)]⟩]) (es' := [(_, _), (3, .v (.bool ((decide (s < 144)))))]) (by kernel_rfl) rfl rfl
    ⟨st_plain rfl (op_move _ _ _ _ rfl rfl),
      st_plain rfl (op_bin _ _ _ _ _ rfl rfl rfl),
      st_plain rfl (op_assign _ _ _ _ rfl rfl),
      trivial⟩ ?_
  refine pt_then ?_
  refine ht_cond _ rfl (fun hb1 => ?_) (fun hb1 => ?_)
  · have h := cond_t hb1 h
    refine ht_seq ?_
    refine ht_seqR hn (El := [_, _, (2, .v (.int .i64 8))]) (init := [0, 1]) (fin := [2]) (sps := [⟨[], [], [2], [(.slot 2)]⟩]) (es' := [(2, .v (.int .i64 8))]) (by kernel_rfl) rfl rfl
      ⟨st_plain rfl (op_assign _ _ _ _ rfl rfl),
        trivial⟩ ?_
    refine pt_then ?_
    refine ht_ret ?_
    refine pt_r_in ?_
    refine pt_r_then ?_
    obtain rfl := Option.some.inj h
    exact pt_ret hio rfl (.tmp _ _ .nil) rfl rfl
  · have h := cond_f hb1 h
    refine ht_seq ?_
    refine ht_seqR hn (El := [_, _, (7, .v (.int .i64 s)), (8, .v (.bool ((decide (s < 256))))), (6, .v (.bool ((decide (s < 256)))))]) (init := [0, 1]) (fin := [0, 4]) (sps := [⟨[0], [], [2], [(.slot 7)]⟩, ⟨[2], [], [3], [(.slot 8)]⟩, ⟨[3], [], [4], [(.slot 6)]⟩]) (es' := [(_, _), (6, .v (.bool ((decide (s < 256)))))]) (by kernel_rfl) rfl rfl
      ⟨st_plain rfl (op_move _ _ _ _ rfl rfl),
        st_plain rfl (op_bin _ _ _ _ _ rfl rfl rfl),
        st_plain rfl (op_assign _ _ _ _ rfl rfl),
        trivial⟩ ?_
    refine pt_then ?_
    refine ht_cond _ rfl (fun hb2 => ?_) (fun hb2 => ?_)
    · have h := cond_t hb2 h
      refine ht_seq ?_
      refine ht_seqR hn (El := [_, _, (2, .v (.int .i64 9))]) (init := [0, 1]) (fin := [2]) (sps := [⟨[], [], [2], [(.slot 2)]⟩]) (es' := [(2, .v (.int .i64 9))]) (by kernel_rfl) rfl rfl
        ⟨st_plain rfl (op_assign _ _ _ _ rfl rfl),
          trivial⟩ ?_
      refine pt_then ?_
      refine ht_ret ?_
      refine pt_r_in ?_
      refine pt_r_then ?_
      obtain rfl := Option.some.inj h
      exact pt_ret hio rfl (.tmp _ _ .nil) rfl rfl
    · have h := cond_f hb2 h
      refine ht_seq ?_
      refine ht_seqR hn (El := [_, _, (10, .v (.int .i64 s)), (11, .v (.bool ((decide (s < 280))))), (9, .v (.bool ((decide (s < 280)))))]) (init := [0, 1]) (fin := [4]) (sps := [⟨[0], [], [2], [(.slot 10)]⟩, ⟨[2], [], [3], [(.slot 11)]⟩, ⟨[3], [], [4], [(.slot 9)]⟩]) (es' := [(9, .v (.bool ((decide (s < 280)))))]) (by kernel_rfl) rfl rfl
        ⟨st_plain rfl (op_move _ _ _ _ rfl rfl),
          st_plain rfl (op_bin _ _ _ _ _ rfl rfl rfl),
          st_plain rfl (op_assign _ _ _ _ rfl rfl),
          trivial⟩ ?_
      refine pt_then ?_
      refine ht_cond _ rfl (fun hb3 => ?_) (fun hb3 => ?_)
      · have h := cond_t hb3 h
        refine ht_seq ?_
        refine ht_seqR hn (El := [_, (2, .v (.int .i64 7))]) (init := [0]) (fin := [1]) (sps := [⟨[], [], [1], [(.slot 2)]⟩]) (es' := [(2, .v (.int .i64 7))]) (by kernel_rfl) rfl rfl
          ⟨st_plain rfl (op_assign _ _ _ _ rfl rfl),
            trivial⟩ ?_
        refine pt_then ?_
        refine ht_ret ?_
        refine pt_r_in ?_
        refine pt_r_then ?_
        obtain rfl := Option.some.inj h
        exact pt_ret hio rfl (.tmp _ _ .nil) rfl rfl
      · have h := cond_f hb3 h
        refine ht_skip ?_
        refine pt_inb ?_
        refine pt_then ?_
        refine ht_seq ?_
        refine ht_seqR hn (El := [_, (2, .v (.int .i64 8))]) (init := [0]) (fin := [1]) (sps := [⟨[], [], [1], [(.slot 2)]⟩]) (es' := [(2, .v (.int .i64 8))]) (by kernel_rfl) rfl rfl
          ⟨st_plain rfl (op_assign _ _ _ _ rfl rfl),
            trivial⟩ ?_
        refine pt_then ?_
        refine ht_ret ?_
        obtain rfl := Option.some.inj h
        exact pt_ret hio rfl (.tmp _ _ .nil) rfl rfl

set_option maxHeartbeats 1000000 in
theorem ok_sym_Fixed (r : ((List Int) × (List Int))) (h : Sh.sym_Fixed  = some r) : FnOK Try.prog 17 [] (.tup [.fl (.own 3) 1 (List.map (Value.int .i64) r.1), .fl (.own 3) 1 (List.map (Value.int .i64) r.2)]) := by
  unfold Sh.sym_Fixed at h
  refine fn_ok Try.func17 rfl (Nat.le_of_ble_eq_true rfl) rfl rfl fun g0 hn hio => ?_
  refine ht_seq ?_
  refine ht_seqR hn (El := [(0, .v (.slice none 0 0)), (1, .v (.slice none 0 0))]) (init := []) (fin := [0, 1]) (sps := [⟨[], [], [0], [(.slot 0)]⟩, ⟨[], [], [1], [(.slot 1)]⟩]) (es' := [(0, .v (.slice none 0 0)), (1, .v (.slice none 0 0))]) (by kernel_rfl) rfl rfl
    ⟨st_plain rfl (op_assign _ _ _ _ rfl rfl),
      st_plain rfl (op_assign _ _ _ _ rfl rfl),
      trivial⟩ ?_
  refine pt_then ?_
  refine ht_seq ?_
  refine ht_seq ?_
  refine ht_seqR hn (El := [_, _, (3, .v (.int .i64 0))]) (init := [0, 1]) (fin := [0, 1, 2]) (sps := [⟨[], [], [2], [(.slot 3)]⟩]) (es' := [(_, _), (_, _), (3, .v (.int .i64 0))]) (by kernel_rfl) rfl rfl
    ⟨st_plain rfl (op_move _ _ _ _ rfl rfl),
      trivial⟩ ?_
  refine pt_then ?_
  refine ht_sub (fs := [(0, .fl (.own 3) 1 (List.map (Value.int .i64) [])), (1, .v (.slice none 0 0)), (3, .v (.int .i64 0))]) (.sub _ (sub_nil 3 1) rfl (.same _ (.same _ .nil))) ?_
  refine ht_loopS h (fun ((s8, s9) : (List Int) × Int) => [(0, .fl (.own 3) 1 (List.map (Value.int .i64) s8)), (1, .v (.slice none 0 0)), (3, .v (.int .i64 s9))]) (fun (s11 : (List Int)) => [(0, .fl (.own 3) 1 (List.map (Value.int .i64) s11)), (1, .v (.slice none 0 0))]) ?_ ?_
  · rintro s11 h
    refine pt_then ?_
    refine ht_seq ?_
    refine ht_seq ?_
    refine ht_seqR hn (El := [_, _, (12, .v (.int .i64 0))]) (init := [0, 1]) (fin := [0, 1, 2]) (sps := [⟨[], [], [2], [(.slot 12)]⟩]) (es' := [(_, _), (_, _), (12, .v (.int .i64 0))]) (by kernel_rfl) rfl rfl
      ⟨st_plain rfl (op_move _ _ _ _ rfl rfl),
        trivial⟩ ?_
    refine pt_then ?_
    refine ht_sub (fs := [(0, .fl (.own 3) 1 (List.map (Value.int .i64) s11)), (1, .fl (.own 3) 1 (List.map (Value.int .i64) [])), (12, .v (.int .i64 0))]) (.same _ (.sub _ (sub_nil 3 1) rfl (.same _ .nil))) ?_
    refine ht_loopS h (fun ((s25, s26) : (List Int) × Int) => [(0, .fl (.own 3) 1 (List.map (Value.int .i64) s11)), (1, .fl (.own 3) 1 (List.map (Value.int .i64) s25)), (12, .v (.int .i64 s26))]) (fun (s28 : (List Int)) => [(0, .fl (.own 3) 1 (List.map (Value.int .i64) s11)), (1, .fl (.own 3) 1 (List.map (Value.int .i64) s28))]) ?_ ?_
    · rintro s28 h
      refine pt_then ?_
      refine ht_seq ?_
      refine ht_seqR hn (El := [_, _, (18, .fl (.own 3) 1 (List.map (Value.int .i64) s11)), (19, .fl (.own 3) 1 (List.map (Value.int .i64) s28)), (0, .fl (.own 3) 1 (List.map (Value.int .i64) s11)), (1, .fl (.own 3) 1 (List.map (Value.int .i64) s28))]) (init := [0, 1]) (fin := [4, 5]) (sps := [⟨[], [0], [2], [(.slot 18)]⟩, ⟨[], [1], [3], [(.slot 19)]⟩, ⟨[], [2], [4], [(.slot 0)]⟩, ⟨[], [3], [5], [(.slot 1)]⟩]) (es' := [(0, .fl (.own 3) 1 (List.map (Value.int .i64) s11)), (1, .fl (.own 3) 1 (List.map (Value.int .i64) s28))]) (by kernel_rfl) rfl rfl
        ⟨st_plain rfl (op_move_take _ _ _ _ rfl),
          st_plain rfl (op_move_take _ _ _ _ rfl),
          st_plain rfl (op_assign_take _ _ _ _ rfl),
          st_plain rfl (op_assign_take _ _ _ _ rfl),
          trivial⟩ ?_
      refine pt_then ?_
      refine ht_ret ?_
      obtain rfl := Option.some.inj h
      exact pt_ret hio rfl (.tmp _ _ (.tmp _ _ .nil)) rfl rfl
    · rintro u29 hl30 hr31 ⟨s25, s26⟩ rr34 h ho32
      refine ht_seq ?_
      refine ht_seqR hn (El := [_, _, _, (13, .v (.bool ((decide (s26 < 32)))))]) (init := [0, 1, 2]) (fin := [0, 1, 2, 3]) (sps := [⟨[2], [], [3], [(.slot 13)]⟩]) (es' := [(_, _), (_, _), (_, _), (13, .v (.bool ((decide (s26 < 32)))))]) (by kernel_rfl) rfl rfl
        ⟨st_plain rfl (op_bin _ _ _ _ _ rfl rfl rfl),
          trivial⟩ ?_
      refine pt_then ?_
      refine ht_seq ?_
      refine ht_cond _ rfl (fun hb35 => ?_) (fun hb35 => ?_)
      · have h := cond_t hb35 h
        refine ht_skip ?_
        refine pt_then ?_
        refine ht_seq ?_
        refine ht_block ?_
        obtain ⟨v20, hv20, h⟩ := bind_some h
        refine ht_seqR hn (El := [_, _, _, _, (14, .fl (.own 3) 1 (List.map (Value.int .i64) s25)), (15, .fl (.own 3) 1 (List.map (Value.int .i64) [5])), (16, .fl (.own 3) 1 (List.map (Value.int .i64) v20)), (14, .any), (1, .fl (.own 3) 1 (List.map (Value.int .i64) v20))]) (init := [0, 1, 2, 3]) (fin := [0, 2, 8]) (sps := [⟨[], [1], [4], [(.slot 14)]⟩, ⟨[], [], [5], [(.slot 15)]⟩, ⟨[5], [4], [7, 6], [(.slot 16)]⟩, ⟨[], [6], [8], [(.slot 1)]⟩]) (es' := [(_, _), (_, _), (1, .fl (.own 3) 1 (List.map (Value.int .i64) v20))]) (by kernel_rfl) rfl rfl
          ⟨st_plain rfl (op_move_take _ _ _ _ rfl),
            st_plain rfl (op_buildSlice _ _ 1 (.int .i64 0) (List.map (Value.int .i64) [5]) [(0, .int .i64 5)] Try.underlying28 sz3 zr3 (fun _ V w o a hv hes => by simp only [List.map_toArray, List.map_cons, List.map_nil]; try rfl) (litfill (by simp [Instr.fill, Value.cells]; rfl) (by simp [List.range, List.range.loop])) (by simp [Value.oneCell']) rfl (by decide) (by decide) (by decide)),
            st_plain rfl (op_app _ _ _ _ _ el28 rfl rfl (map_len _) (map_len _) hv20 ((List.map_append).symm.trans (congrArg (List.map _) (app_eq hv20)))),
            st_plain rfl (op_assign_take _ _ _ _ rfl),
            trivial⟩ ?_
        refine pt_inb ?_
        refine pt_then ?_
        obtain ⟨v21, hv21, h⟩ := bind_some h
        refine ht_seqR hn (El := [_, _, _, (17, .v (.int .i64 v21)), (12, .v (.int .i64 v21))]) (init := [0, 1, 2]) (fin := [0, 2, 4]) (sps := [⟨[1], [], [3], [(.slot 17)]⟩, ⟨[3], [1], [4], [(.slot 12)]⟩]) (es' := [(_, _), (_, _), (12, .v (.int .i64 v21))]) (by kernel_rfl) rfl rfl
          ⟨st_plain rfl (op_bin _ _ _ _ _ rfl rfl (ibind (f := Value.int .i64) (Option.some.inj hv21))),
            st_plain rfl (LOp.drop [_] (op_move _ _ _ _ rfl rfl)),
            trivial⟩ ?_
        exact pt_next _ (Option.some.inj h).symm rfl
      · have h := cond_f hb35 h
        refine ht_exit ?_
        refine pt_x_then ?_
        refine pt_x_then ?_
        refine pt_x_in ?_
        refine pt_pick [0, 1] (by kernel_rfl) (es' := [(_, _), (_, _)]) rfl ?_
        exact hl30 _ (ho32 _ (Option.some.inj h).symm).symm
  · rintro u12 hl13 hr14 ⟨s8, s9⟩ rr17 h ho15
    refine ht_seq ?_
    refine ht_seqR hn (El := [_, _, _, (4, .v (.bool ((decide (s9 < 288)))))]) (init := [0, 1, 2]) (fin := [0, 1, 2, 3]) (sps := [⟨[2], [], [3], [(.slot 4)]⟩]) (es' := [(_, _), (_, _), (_, _), (4, .v (.bool ((decide (s9 < 288)))))]) (by kernel_rfl) rfl rfl
      ⟨st_plain rfl (op_bin _ _ _ _ _ rfl rfl rfl),
        trivial⟩ ?_
    refine pt_then ?_
    refine ht_seq ?_
    refine ht_cond _ rfl (fun hb18 => ?_) (fun hb18 => ?_)
    · have h := cond_t hb18 h
      refine ht_skip ?_
      refine pt_then ?_
      refine ht_seq ?_
      refine ht_block ?_
      refine ht_seq ?_
      refine ht_seqR hn (El := [_, _, _, _, (5, .v (.int .i64 s9)), (2, .v (.int .i64 s9))]) (init := [0, 1, 2, 3]) (fin := [0, 1, 2, 5]) (sps := [⟨[2], [], [4], [(.slot 5)]⟩, ⟨[4], [], [5], [(.slot 2)]⟩]) (es' := [(_, _), (_, _), (_, _), (2, .v (.int .i64 s9))]) (by kernel_rfl) rfl rfl
        ⟨st_plain rfl (op_move _ _ _ _ rfl rfl),
          st_plain rfl (op_assign _ _ _ _ rfl rfl),
          trivial⟩ ?_
      refine pt_then ?_
      obtain ⟨v2, hv2, h⟩ := bind_some h
      obtain ⟨v3, hv3, h⟩ := bind_some h
      refine ht_seqR hn (El := [_, _, _, _, (6, .fl (.own 3) 1 (List.map (Value.int .i64) s8)), (7, .v (.int .i64 s9)), (8, .v (.int .i64 v2)), (9, .fl (.own 3) 1 (List.map (Value.int .i64) [v2])), (10, .fl (.own 3) 1 (List.map (Value.int .i64) v3)), (6, .any), (0, .fl (.own 3) 1 (List.map (Value.int .i64) v3))]) (init := [0, 1, 2, 3]) (fin := [1, 2, 10]) (sps := [⟨[], [0], [4], [(.slot 6)]⟩, ⟨[3], [], [5], [(.slot 7)]⟩, ⟨[5], [], [6], [(.slot 8)]⟩, ⟨[6], [], [7], [(.slot 9)]⟩, ⟨[7], [4], [9, 8], [(.slot 10)]⟩, ⟨[], [8], [10], [(.slot 0)]⟩]) (es' := [(_, _), (_, _), (0, .fl (.own 3) 1 (List.map (Value.int .i64) v3))]) (by kernel_rfl) rfl rfl
        ⟨st_plain rfl (op_move_take _ _ _ _ rfl),
          st_plain rfl (op_move _ _ _ _ rfl rfl),
          st_plain rfl (op_call _ _ 34 _ _ rfl Try.call34 rfl (ok_sym_fixedLen s9 _ hv2) rfl rfl),
          st_plain rfl (op_buildSlice _ _ 1 (.int .i64 0) (List.map (Value.int .i64) [v2]) [(0, .int .i64 v2)] Try.underlying28 sz3 zr3 (fun _ V w o a hv hes => by have e0 := rd_v hv hes (x := .tmp 8) rfl; simp only [List.map_toArray, List.map_cons, List.map_nil, e0]; try rfl) (litfill (by simp [Instr.fill, Value.cells]; rfl) (by simp [List.range, List.range.loop])) (by simp [Value.oneCell']) rfl (by decide) (by decide) (by decide)),
          st_plain rfl (op_app _ _ _ _ _ el28 rfl rfl (map_len _) (map_len _) hv3 ((List.map_append).symm.trans (congrArg (List.map _) (app_eq hv3)))),
          st_plain rfl (op_assign_take _ _ _ _ rfl),
          trivial⟩ ?_
      refine pt_inb ?_
      refine pt_then ?_
      obtain ⟨v4, hv4, h⟩ := bind_some h
      refine ht_seqR hn (El := [_, _, _, (11, .v (.int .i64 v4)), (3, .v (.int .i64 v4))]) (init := [0, 1, 2]) (fin := [0, 2, 4]) (sps := [⟨[1], [], [3], [(.slot 11)]⟩, ⟨[3], [1], [4], [(.slot 3)]⟩]) (es' := [(_, _), (_, _), (3, .v (.int .i64 v4))]) (by kernel_rfl) rfl rfl
        ⟨st_plain rfl (op_bin _ _ _ _ _ rfl rfl (ibind (f := Value.int .i64) (Option.some.inj hv4))),
          st_plain rfl (LOp.drop [_] (op_move _ _ _ _ rfl rfl)),
          trivial⟩ ?_
      refine pt_pick [1, 0, 2] (by kernel_rfl) (es' := [(_, _), (_, _), (_, _)]) rfl ?_
      exact pt_next _ (Option.some.inj h).symm rfl
    · have h := cond_f hb18 h
      refine ht_exit ?_
      refine pt_x_then ?_
      refine pt_x_then ?_
      refine pt_x_in ?_
      refine pt_pick [0, 1] (by kernel_rfl) (es' := [(_, _), (_, _)]) rfl ?_
      exact hl13 _ (ho15 _ (Option.some.inj h).symm).symm

set_option maxHeartbeats 1000000 in
theorem ok_canon_valid (lengths : (List Int)) (r : Bool) (h : Sh.canon_valid lengths = some r) : FnOK Try.prog 38 [.fl .shr 1 (List.map (Value.int .i64) lengths)] (.v (.bool r)) := by
  unfold Sh.canon_valid at h
  refine fn_ok Try.func38 rfl (Nat.le_of_ble_eq_true rfl) rfl rfl fun g0 hn hio => ?_
  refine ht_seq ?_
  refine ht_seqR hn (El := [_, (2, .v (.bool false))]) (init := [0]) (fin := [0]) (sps := [⟨[], [], [1], [(.slot 2)]⟩]) (es' := [(_, _)]) (by kernel_rfl) rfl rfl
    ⟨st_plain rfl (op_assign _ _ _ _ rfl rfl),
      trivial⟩ ?_
  refine pt_then ?_
  refine ht_seq ?_
  refine ht_seq ?_
  refine ht_seqR hn (El := [_, (5, .fl .shr 1 (List.map (Value.int .i64) lengths)), (6, .v (.int .i64 (lengths.length : Int))), (7, .v (.bool ((decide (300 < (lengths.length : Int))))))]) (init := [0]) (fin := [0, 3]) (sps := [⟨[0], [], [1], [(.slot 5)]⟩, ⟨[1], [], [2], [(.slot 6)]⟩, ⟨[2], [], [3], [(.slot 7)]⟩]) (es' := [(_, _), (7, .v (.bool ((decide (300 < (lengths.length : Int))))))]) (by kernel_rfl) rfl rfl
    ⟨st_plain rfl (op_move _ _ _ _ rfl rfl),
      st_plain rfl (op_len_fl _ _ _ Try.underlying28 rfl (by decide) (map_len _)),
      st_plain rfl (op_bin _ _ _ _ _ rfl rfl rfl),
      trivial⟩ ?_
  refine pt_then ?_
  refine ht_cond _ rfl (fun hb1 => ?_) (fun hb1 => ?_)
  · have h := cond_t hb1 h
    refine ht_seq ?_
    refine ht_seqR hn (El := [_, _, (2, .v (.bool false))]) (init := [0, 1]) (fin := [2]) (sps := [⟨[], [], [2], [(.slot 2)]⟩]) (es' := [(2, .v (.bool false))]) (by kernel_rfl) rfl rfl
      ⟨st_plain rfl (op_assign _ _ _ _ rfl rfl),
        trivial⟩ ?_
    refine pt_then ?_
    refine ht_ret ?_
    refine pt_r_then ?_
    obtain rfl := Option.some.inj h
    exact pt_ret hio rfl (.tmp _ _ .nil) rfl rfl
  · have h := cond_f hb1 h
    refine ht_skip ?_
    refine pt_then ?_
    refine ht_seq ?_
    refine ht_seq ?_
    refine ht_seqR hn (El := [_, _, (8, .fl .shr 1 (List.map (Value.int .i64) lengths)), (9, .v (.int .i64 (lengths.length : Int))), (10, .v (.int .i64 0))]) (init := [0, 1]) (fin := [2, 3, 4]) (sps := [⟨[0], [], [2], [(.slot 8)]⟩, ⟨[2], [], [3], [(.slot 9)]⟩, ⟨[], [], [4], [(.slot 10)]⟩]) (es' := [(8, .fl .shr 1 (List.map (Value.int .i64) lengths)), (9, .v (.int .i64 (lengths.length : Int))), (10, .v (.int .i64 0))]) (by kernel_rfl) rfl rfl
      ⟨st_plain rfl (op_move _ _ _ _ rfl rfl),
        st_plain rfl (op_len_fl _ _ _ Try.underlying28 rfl (by decide) (map_len _)),
        st_plain rfl (op_move _ _ _ _ rfl rfl),
        trivial⟩ ?_
    refine pt_then ?_
    refine ht_loopS h (fun (s18 : Int) => [(8, .fl .shr 1 (List.map (Value.int .i64) lengths)), (9, .v (.int .i64 (lengths.length : Int))), (10, .v (.int .i64 s18))]) (fun (() : Unit) => []) ?_ ?_
    · rintro ⟨⟩ h
      refine pt_then ?_
      refine ht_seq ?_
      refine ht_seqR hn (El := [(2, .v (.bool true))]) (init := []) (fin := [0]) (sps := [⟨[], [], [0], [(.slot 2)]⟩]) (es' := [(2, .v (.bool true))]) (by kernel_rfl) rfl rfl
        ⟨st_plain rfl (op_assign _ _ _ _ rfl rfl),
          trivial⟩ ?_
      refine pt_then ?_
      refine ht_ret ?_
      obtain rfl := Option.some.inj h
      exact pt_ret hio rfl (.tmp _ _ .nil) rfl rfl
    · rintro u25 hl26 hr27 s18 rr30 h ho28
      refine ht_seq ?_
      refine ht_seqR hn (El := [_, _, _, (11, .v (.bool ((decide (s18 < (lengths.length : Int))))))]) (init := [0, 1, 2]) (fin := [0, 1, 2, 3]) (sps := [⟨[2, 1], [], [3], [(.slot 11)]⟩]) (es' := [(_, _), (_, _), (_, _), (11, .v (.bool ((decide (s18 < (lengths.length : Int))))))]) (by kernel_rfl) rfl rfl
        ⟨st_plain rfl (op_bin _ _ _ _ _ rfl rfl rfl),
          trivial⟩ ?_
      refine pt_then ?_
      refine ht_seq ?_
      refine ht_cond _ rfl (fun hb31 => ?_) (fun hb31 => ?_)
      · have h := cond_t hb31 h
        refine ht_skip ?_
        refine pt_then ?_
        refine ht_seq ?_
        refine ht_block ?_
        refine ht_seq ?_
        obtain ⟨v3, hv3, h⟩ := bind_some h
        obtain ⟨v4, hv4, h⟩ := bind_some h
        refine ht_seqR hn (El := [_, _, _, _, (12, .eref (.slot 8) (v3 * 1)), (13, .v (.int .i64 v4)), (4, .v (.int .i64 v4))]) (init := [0, 1, 2, 3]) (fin := [0, 1, 2, 6]) (sps := [⟨[0, 2], [], [4], [(.slot 12)]⟩, ⟨[4, 0], [], [5], [(.slot 13)]⟩, ⟨[5], [], [6], [(.slot 4)]⟩]) (es' := [(_, _), (_, _), (_, _), (4, .v (.int .i64 v4))]) (by kernel_rfl) rfl rfl
          ⟨st_plain rfl (op_ix _ _ _ _ _ _ _ _ Try.underlying28 sz3 (by decide) rfl rfl rfl (ix_ok hv3).1 (map_lt (ix_ok hv3).2) rfl),
            st_plain rfl (op_load_e _ _ _ _ _ _ Try.underlying3 rfl rfl rfl (map_get hv4)),
            st_plain rfl (op_assign _ _ _ _ rfl rfl),
            trivial⟩ ?_
        refine pt_then ?_
        refine ht_seq ?_
        refine ht_joinS h (fun (s32 : Bool) => [(8, .fl .shr 1 (List.map (Value.int .i64) lengths)), (9, .v (.int .i64 (lengths.length : Int))), (10, .v (.int .i64 s18)), (19, .v (.bool s32))]) ?_ ?_
        · rintro s32 h
          refine pt_then ?_
          refine ht_cond _ rfl (fun hb36 => ?_) (fun hb36 => ?_)
          · have h := cond_t hb36 h
            refine ht_seq ?_
            refine ht_seqR hn (El := [_, _, _, _, (2, .v (.bool false))]) (init := [0, 1, 2, 3]) (fin := [4]) (sps := [⟨[], [], [4], [(.slot 2)]⟩]) (es' := [(2, .v (.bool false))]) (by kernel_rfl) rfl rfl
              ⟨st_plain rfl (op_assign _ _ _ _ rfl rfl),
                trivial⟩ ?_
            refine pt_then ?_
            refine ht_ret ?_
            refine pt_r_in ?_
            refine pt_r_then ?_
            refine pt_r_then ?_
            refine pt_r_in ?_
            refine pt_r_then ?_
            have h := hr27 _ (ho28 _ (Option.some.inj h).symm).symm
            obtain rfl := Option.some.inj h
            exact pt_ret hio rfl (.tmp _ _ .nil) rfl rfl
          · have h := cond_f hb36 h
            refine ht_skip ?_
            refine pt_inb ?_
            refine pt_then ?_
            obtain ⟨v10, hv10, h⟩ := bind_some h
            refine ht_seqR hn (El := [_, _, _, _, (20, .v (.int .i64 v10)), (10, .v (.int .i64 v10))]) (init := [0, 1, 2, 3]) (fin := [0, 1, 5]) (sps := [⟨[2], [], [4], [(.slot 20)]⟩, ⟨[4], [2], [5], [(.slot 10)]⟩]) (es' := [(_, _), (_, _), (10, .v (.int .i64 v10))]) (by kernel_rfl) rfl rfl
              ⟨st_plain rfl (op_bin _ _ _ _ _ rfl rfl (ibind (f := Value.int .i64) (Option.some.inj hv10))),
                st_plain rfl (LOp.drop [_] (op_move _ _ _ _ rfl rfl)),
                trivial⟩ ?_
            exact pt_next _ (Option.some.inj h).symm rfl
        · intro u33 h hl34 hr35
          refine cond_some h (fun hg6_2 h => ?_) (fun hg6_2 h => ?_)
          · refine ht_seqR hn (El := [_, _, _, _, (14, .v (.int .i64 v4)), (15, .v (.bool ((decide (v4 < 0))))), (16, .v (.bool true)), (17, .v undef), (18, .v undef), (19, .v (.bool true))]) (init := [0, 1, 2, 3]) (fin := [0, 1, 2, 9]) (sps := [⟨[3], [], [4], [(.slot 14)]⟩, ⟨[4], [], [5], [(.slot 15)]⟩, ⟨[5], [], [6], [(.slot 16)]⟩, ⟨[6], [], [7], [(.slot 17)]⟩, ⟨[6], [], [8], [(.slot 18)]⟩, ⟨[6], [], [9], [(.slot 19)]⟩]) (es' := [(_, _), (_, _), (_, _), (19, .v (.bool true))]) (by kernel_rfl) rfl rfl
              ⟨st_plain rfl (op_move _ _ _ _ rfl rfl),
                st_plain rfl (op_bin _ _ _ _ _ rfl rfl rfl),
                st_plain rfl (op_move _ _ _ _ (congrArg (fun b => AV.v (Value.bool b)) hg6_2) rfl),
                st_skip 2 16 _ false rfl rfl rfl rfl (List.Mem.head _),
                st_skip 2 16 _ false rfl rfl rfl rfl (List.Mem.head _),
                st_plain rfl (op_pick _ _ true _ rfl rfl),
                trivial⟩ ?_
            exact hl34 _ (Option.some.inj h).symm
          · refine ht_seqR hn (El := [_, _, _, _, (14, .v (.int .i64 v4)), (15, .v (.bool ((decide (v4 < 0))))), (16, .v (.bool false)), (17, .v (.int .i64 v4)), (18, .v (.bool ((decide (15 < v4))))), (19, .v (.bool ((decide (15 < v4)))))]) (init := [0, 1, 2, 3]) (fin := [0, 1, 2, 9]) (sps := [⟨[3], [], [4], [(.slot 14)]⟩, ⟨[4], [], [5], [(.slot 15)]⟩, ⟨[5], [], [6], [(.slot 16)]⟩, ⟨[6, 3], [], [7], [(.slot 17)]⟩, ⟨[6, 7], [], [8], [(.slot 18)]⟩, ⟨[6, 8], [], [9], [(.slot 19)]⟩]) (es' := [(_, _), (_, _), (_, _), (19, .v (.bool ((decide (15 < v4)))))]) (by kernel_rfl) rfl rfl
              ⟨st_plain rfl (op_move _ _ _ _ rfl rfl),
                st_plain rfl (op_bin _ _ _ _ _ rfl rfl rfl),
                st_plain rfl (op_move _ _ _ _ (congrArg (fun b => AV.v (Value.bool b)) hg6_2) rfl),
                st_run 2 16 false rfl rfl rfl (List.Mem.head _) (op_move _ _ _ _ rfl rfl),
                st_run 2 16 false rfl rfl rfl (List.Mem.head _) (op_bin _ _ _ _ _ rfl rfl rfl),
                st_plain rfl (op_pick _ _ false _ rfl rfl),
                trivial⟩ ?_
            exact hl34 _ (Option.some.inj h).symm
      · have h := cond_f hb31 h
        refine ht_exit ?_
        refine pt_x_then ?_
        refine pt_x_then ?_
        refine pt_x_in ?_
        refine pt_pick [] (by kernel_rfl) (es' := []) rfl ?_
        exact hl26 _ (ho28 _ (Option.some.inj h).symm).symm

set_option maxHeartbeats 1000000 in
theorem ok_canon_count (lengths : (List Int)) (r : (List Int)) (h : Sh.canon_count lengths = some r) : FnOK Try.prog 40 [.fl .shr 1 (List.map (Value.int .i64) lengths)] (.v (.agg (List.map (Value.int .i64) r).toArray)) := by
  unfold Sh.canon_count at h
  refine fn_ok Try.func40 rfl (Nat.le_of_ble_eq_true rfl) rfl rfl fun g0 hn hio => ?_
  refine ht_seq ?_
  refine ht_seqR hn (El := [_, (2, .arr 64 (List.map (Value.int .i64) ((List.replicate 16 (0 : Int)))))]) (init := [0]) (fin := [0, 1]) (sps := [⟨[], [], [1], [(.slot 2)]⟩]) (es' := [(_, _), (2, .arr 64 (List.map (Value.int .i64) ((List.replicate 16 (0 : Int)))))]) (by kernel_rfl) rfl rfl
    ⟨st_plain rfl (op_alloc_arr _ za64),
      trivial⟩ ?_
  refine pt_then ?_
  refine ht_seq ?_
  refine ht_seqR hn (El := [_, _, (3, .arr 64 (List.map (Value.int .i64) ((List.replicate 16 (0 : Int)))))]) (init := [0, 1]) (fin := [0, 1, 2]) (sps := [⟨[], [], [2], [(.slot 3)]⟩]) (es' := [(_, _), (_, _), (3, .arr 64 (List.map (Value.int .i64) ((List.replicate 16 (0 : Int)))))]) (by kernel_rfl) rfl rfl
    ⟨st_plain rfl (op_alloc_arr _ za64),
      trivial⟩ ?_
  refine pt_then ?_
  refine ht_seq ?_
  refine ht_seq ?_
  refine ht_seqR hn (El := [_, _, _, (6, .fl .shr 1 (List.map (Value.int .i64) lengths)), (7, .v (.int .i64 (lengths.length : Int))), (8, .v (.int .i64 0))]) (init := [0, 1, 2]) (fin := [1, 2, 3, 4, 5]) (sps := [⟨[0], [], [3], [(.slot 6)]⟩, ⟨[3], [], [4], [(.slot 7)]⟩, ⟨[], [], [5], [(.slot 8)]⟩]) (es' := [(_, _), (_, _), (6, .fl .shr 1 (List.map (Value.int .i64) lengths)), (7, .v (.int .i64 (lengths.length : Int))), (8, .v (.int .i64 0))]) (by kernel_rfl) rfl rfl
    ⟨st_plain rfl (op_move _ _ _ _ rfl rfl),
      st_plain rfl (op_len_fl _ _ _ Try.underlying28 rfl (by decide) (map_len _)),
      st_plain rfl (op_move _ _ _ _ rfl rfl),
      trivial⟩ ?_
  refine pt_then ?_
  refine ht_loopS h (fun ((s25, s26) : (List Int) × Int) => [(2, .arr 64 (List.map (Value.int .i64) ((List.replicate 16 (0 : Int))))), (3, .arr 64 (List.map (Value.int .i64) s25)), (6, .fl .shr 1 (List.map (Value.int .i64) lengths)), (7, .v (.int .i64 (lengths.length : Int))), (8, .v (.int .i64 s26))]) (fun (s34 : (List Int)) => [(2, .arr 64 (List.map (Value.int .i64) ((List.replicate 16 (0 : Int))))), (3, .arr 64 (List.map (Value.int .i64) s34))]) ?_ ?_
  · rintro s34 h
    refine pt_then ?_
    refine ht_seq ?_
    obtain ⟨v48, hv48, h⟩ := bind_some h
    obtain ⟨v49, hv49, h⟩ := bind_some h
    obtain ⟨v50, hv50, h⟩ := bind_some h
    refine ht_seqR hn (El := [_, _, (20, .v (.agg (List.map (Value.int .i64) s34).toArray)), (2, .arr 64 (List.map (Value.int .i64) s34))]) (init := [0, 1]) (fin := [3]) (sps := [⟨[1], [], [2], [(.slot 20)]⟩, ⟨[2], [0], [3], []⟩]) (es' := [(2, .arr 64 (List.map (Value.int .i64) s34))]) (by kernel_rfl) rfl rfl
      ⟨st_plain rfl (op_loadA_arr _ _ _ _ Try.underlying64 rfl (sz64.trans (congrArg some (ln_len hv48))) rfl rfl),
        st_plain rfl (op_storeA_arr _ _ _ _ (sz64.trans (congrArg some (ln_len hv50))) rfl rfl (ln_ones (fun _ => rfl) _) ((ln_len (f := Value.int .i64) hv49).symm.trans (ln_len (f := Value.int .i64) hv50))),
        trivial⟩ ?_
    refine pt_then ?_
    refine ht_ret ?_
    obtain ⟨v51, hv51, h⟩ := bind_some h
    obtain rfl := Option.some.inj h
    exact pt_ret hio rfl (.cellR _ _ _ _ Try.underlying64 rfl (sz64.trans (congrArg some (ln_len hv51))) .nil) rfl rfl
  · rintro u35 hl36 hr37 ⟨s25, s26⟩ rr40 h ho38
    refine ht_seq ?_
    refine ht_seqR hn (El := [_, _, _, _, _, (9, .v (.bool ((decide (s26 < (lengths.length : Int))))))]) (init := [0, 1, 2, 3, 4]) (fin := [0, 1, 2, 3, 4, 5]) (sps := [⟨[4, 3], [], [5], [(.slot 9)]⟩]) (es' := [(_, _), (_, _), (_, _), (_, _), (_, _), (9, .v (.bool ((decide (s26 < (lengths.length : Int))))))]) (by kernel_rfl) rfl rfl
      ⟨st_plain rfl (op_bin _ _ _ _ _ rfl rfl rfl),
        trivial⟩ ?_
    refine pt_then ?_
    refine ht_seq ?_
    refine ht_cond _ rfl (fun hb41 => ?_) (fun hb41 => ?_)
    · have h := cond_t hb41 h
      refine ht_skip ?_
      refine pt_then ?_
      refine ht_seq ?_
      refine ht_joinS h (fun (s43 : (List Int)) => [(2, .arr 64 (List.map (Value.int .i64) ((List.replicate 16 (0 : Int))))), (3, .arr 64 (List.map (Value.int .i64) s43)), (6, .fl .shr 1 (List.map (Value.int .i64) lengths)), (7, .v (.int .i64 (lengths.length : Int))), (8, .v (.int .i64 s26))]) ?_ ?_
      · rintro s43 h
        refine pt_then ?_
        obtain ⟨v15, hv15, h⟩ := bind_some h
        refine ht_seqR hn (El := [_, _, _, _, _, (19, .v (.int .i64 v15)), (8, .v (.int .i64 v15))]) (init := [0, 1, 2, 3, 4]) (fin := [0, 1, 2, 3, 6]) (sps := [⟨[4], [], [5], [(.slot 19)]⟩, ⟨[5], [4], [6], [(.slot 8)]⟩]) (es' := [(_, _), (_, _), (_, _), (_, _), (8, .v (.int .i64 v15))]) (by kernel_rfl) rfl rfl
          ⟨st_plain rfl (op_bin _ _ _ _ _ rfl rfl (ibind (f := Value.int .i64) (Option.some.inj hv15))),
            st_plain rfl (LOp.drop [_] (op_move _ _ _ _ rfl rfl)),
            trivial⟩ ?_
        exact pt_next _ (Option.some.inj h).symm rfl
      · intro u44 h hl45 hr46
        refine ht_block ?_
        refine ht_seq ?_
        obtain ⟨v2, hv2, h⟩ := bind_some h
        obtain ⟨v3, hv3, h⟩ := bind_some h
        refine ht_seqR hn (El := [_, _, _, _, _, _, (10, .eref (.slot 6) (v2 * 1)), (11, .v (.int .i64 v3)), (5, .v (.int .i64 v3))]) (init := [0, 1, 2, 3, 4, 5]) (fin := [0, 1, 2, 3, 4, 8]) (sps := [⟨[2, 4], [], [6], [(.slot 10)]⟩, ⟨[6, 2], [], [7], [(.slot 11)]⟩, ⟨[7], [], [8], [(.slot 5)]⟩]) (es' := [(_, _), (_, _), (_, _), (_, _), (_, _), (5, .v (.int .i64 v3))]) (by kernel_rfl) rfl rfl
          ⟨st_plain rfl (op_ix _ _ _ _ _ _ _ _ Try.underlying28 sz3 (by decide) rfl rfl rfl (ix_ok hv2).1 (map_lt (ix_ok hv2).2) rfl),
            st_plain rfl (op_load_e _ _ _ _ _ _ Try.underlying3 rfl rfl rfl (map_get hv3)),
            st_plain rfl (op_assign _ _ _ _ rfl rfl),
            trivial⟩ ?_
        refine pt_then ?_
        refine ht_seq ?_
        refine ht_seqR hn (El := [_, _, _, _, _, _, (12, .v (.int .i64 v3)), (13, .v (.bool ((decide (0 < v3)))))]) (init := [0, 1, 2, 3, 4, 5]) (fin := [0, 1, 2, 3, 4, 5, 7]) (sps := [⟨[5], [], [6], [(.slot 12)]⟩, ⟨[6], [], [7], [(.slot 13)]⟩]) (es' := [(_, _), (_, _), (_, _), (_, _), (_, _), (_, _), (13, .v (.bool ((decide (0 < v3)))))]) (by kernel_rfl) rfl rfl
          ⟨st_plain rfl (op_move _ _ _ _ rfl rfl),
            st_plain rfl (op_bin _ _ _ _ _ rfl rfl rfl),
            trivial⟩ ?_
        refine pt_then ?_
        refine ht_cond _ rfl (fun hb47 => ?_) (fun hb47 => ?_)
        · have h := cond_t hb47 h
          obtain ⟨v5, hv5, h⟩ := bind_some h
          obtain ⟨v6, hv6, h⟩ := bind_some h
          obtain ⟨v7, hv7, h⟩ := bind_some h
          obtain ⟨v8, hv8, h⟩ := bind_some h
          obtain ⟨v9, hv9, h⟩ := bind_some h
          refine ht_seqR hn (El := [_, _, _, _, _, _, _, (14, .v (.int .i64 v3)), (15, .ptr 3 v5), (16, .v (.int .i64 v6)), (17, .v (.int .i64 v7)), (18, .ptr 3 v8), (3, .arr 64 (List.map (Value.int .i64) v9))]) (init := [0, 1, 2, 3, 4, 5, 6]) (fin := [0, 12, 2, 3, 4]) (sps := [⟨[5], [], [7], [(.slot 14)]⟩, ⟨[1, 7], [], [8], [(.slot 15)]⟩, ⟨[8, 1], [], [9], [(.slot 16)]⟩, ⟨[9], [], [10], [(.slot 17)]⟩, ⟨[1, 7], [], [11], [(.slot 18)]⟩, ⟨[11, 10], [1], [12], []⟩]) (es' := [(_, _), (3, .arr 64 (List.map (Value.int .i64) v9)), (_, _), (_, _), (_, _)]) (by kernel_rfl) rfl rfl
            ⟨st_plain rfl (op_move _ _ _ _ rfl rfl),
              st_plain rfl (op_ix_arr _ _ _ _ 16 3 _ Try.underlying64 sz3 rfl rfl (ix_ok hv5).1 (ix_ok hv5).2 (by decide)),
              st_plain rfl (op_load_arr _ _ _ _ _ _ Try.underlying3 rfl rfl rfl (map_get1 hv6)),
              st_plain rfl (op_bin _ _ _ _ _ rfl rfl (ibind (f := Value.int .i64) (Option.some.inj hv7))),
              st_plain rfl (op_ix_arr _ _ _ _ 16 3 _ Try.underlying64 sz3 rfl rfl (ix_ok hv8).1 (ix_ok hv8).2 (by decide)),
              st_plain rfl (op_store_arr _ _ _ _ _ _ sz3 rfl rfl rfl rfl (set_lt hv9) (set_eq (f := Value.int .i64) hv9)),
              trivial⟩ ?_
          refine pt_inb ?_
          exact hl45 _ (Option.some.inj h).symm
        · have h := cond_f hb47 h
          refine ht_skip ?_
          refine pt_inb ?_
          refine pt_pick [0, 1, 2, 3, 4] (by kernel_rfl) (es' := [(_, _), (_, _), (_, _), (_, _), (_, _)]) rfl ?_
          exact hl45 _ (Option.some.inj h).symm
    · have h := cond_f hb41 h
      refine ht_exit ?_
      refine pt_x_then ?_
      refine pt_x_then ?_
      refine pt_x_in ?_
      refine pt_pick [0, 1] (by kernel_rfl) (es' := [(_, _), (_, _)]) rfl ?_
      exact hl36 _ (ho38 _ (Option.some.inj h).symm).symm

set_option maxHeartbeats 1000000 in
theorem ok_canon_tally_weight (c : (List Int)) (r : Int) (h : Sh.canon_tally_weight c = some r) : FnOK Try.prog 44 [.v (.agg (List.map (Value.int .i64) c).toArray)] (.v (.int .i64 r)) := by
  unfold Sh.canon_tally_weight at h
  refine fn_ok Try.func44 rfl (Nat.le_of_ble_eq_true rfl) rfl rfl fun g0 hn hio => ?_
  refine ht_seq ?_
  refine ht_seqR hn (El := [_, (1, .arr 64 (List.map (Value.int .i64) c)), (2, .v (.int .i64 0))]) (init := [0]) (fin := [1]) (sps := [⟨[0], [], [1], [(.slot 1)]⟩, ⟨[], [], [2], [(.slot 2)]⟩]) (es' := [(1, .arr 64 (List.map (Value.int .i64) c))]) (by kernel_rfl) rfl rfl
    ⟨st_plain rfl (op_box_arr _ _ _ rfl),
      st_plain rfl (op_assign _ _ _ _ rfl rfl),
      trivial⟩ ?_
  refine pt_then ?_
  refine ht_seq ?_
  refine ht_seqR hn (El := [_, (3, .v (.int .i64 0))]) (init := [0]) (fin := [0, 1]) (sps := [⟨[], [], [1], [(.slot 3)]⟩]) (es' := [(_, _), (3, .v (.int .i64 0))]) (by kernel_rfl) rfl rfl
    ⟨st_plain rfl (op_assign _ _ _ _ rfl rfl),
      trivial⟩ ?_
  refine pt_then ?_
  refine ht_seq ?_
  refine ht_seq ?_
  obtain ⟨v1, hv1, h⟩ := bind_some h
  refine ht_seqR hn (El := [_, _, (6, .v (.agg (List.map (Value.int .i64) c).toArray)), (7, .v (.int .i64 0))]) (init := [0, 1]) (fin := [1, 2, 3]) (sps := [⟨[0], [], [2], [(.slot 6)]⟩, ⟨[], [], [3], [(.slot 7)]⟩]) (es' := [(_, _), (6, .v (.agg (List.map (Value.int .i64) c).toArray)), (7, .v (.int .i64 0))]) (by kernel_rfl) rfl rfl
    ⟨st_plain rfl (op_loadA_arr _ _ _ _ Try.underlying64 rfl (sz64.trans (congrArg some (ln_len hv1))) rfl rfl),
      st_plain rfl (op_move _ _ _ _ rfl rfl),
      trivial⟩ ?_
  refine pt_then ?_
  refine ht_loopS h (fun ((s12, s13) : Int × Int) => [(3, .v (.int .i64 s12)), (6, .v (.agg (List.map (Value.int .i64) c).toArray)), (7, .v (.int .i64 s13))]) (fun (s15 : Int) => [(3, .v (.int .i64 s15))]) ?_ ?_
  · rintro s15 h
    refine pt_then ?_
    refine ht_seq ?_
    refine ht_seqR hn (El := [_, (18, .v (.int .i64 s15)), (2, .v (.int .i64 s15))]) (init := [0]) (fin := [2]) (sps := [⟨[0], [], [1], [(.slot 18)]⟩, ⟨[1], [], [2], [(.slot 2)]⟩]) (es' := [(2, .v (.int .i64 s15))]) (by kernel_rfl) rfl rfl
      ⟨st_plain rfl (op_move _ _ _ _ rfl rfl),
        st_plain rfl (op_assign _ _ _ _ rfl rfl),
        trivial⟩ ?_
    refine pt_then ?_
    refine ht_ret ?_
    obtain rfl := Option.some.inj h
    exact pt_ret hio rfl (.tmp _ _ .nil) rfl rfl
  · rintro u16 hl17 hr18 ⟨s12, s13⟩ rr21 h ho19
    refine ht_seq ?_
    refine ht_seqR hn (El := [_, _, _, (8, .v (.bool ((decide (s13 < 16)))))]) (init := [0, 1, 2]) (fin := [0, 1, 2, 3]) (sps := [⟨[2], [], [3], [(.slot 8)]⟩]) (es' := [(_, _), (_, _), (_, _), (8, .v (.bool ((decide (s13 < 16)))))]) (by kernel_rfl) rfl rfl
      ⟨st_plain rfl (op_bin _ _ _ _ _ rfl rfl rfl),
        trivial⟩ ?_
    refine pt_then ?_
    refine ht_seq ?_
    refine ht_cond _ rfl (fun hb22 => ?_) (fun hb22 => ?_)
    · have h := cond_t hb22 h
      refine ht_skip ?_
      refine pt_then ?_
      refine ht_seq ?_
      refine ht_block ?_
      refine ht_seq ?_
      obtain ⟨v3, hv3, h⟩ := bind_some h
      obtain ⟨v4, hv4, h⟩ := bind_some h
      refine ht_seqR hn (El := [_, _, _, _, (9, .v (.int .i64 s13)), (10, .v (.int .i64 v4)), (4, .v (.int .i64 s13)), (5, .v (.int .i64 v4))]) (init := [0, 1, 2, 3]) (fin := [0, 1, 2, 6, 7]) (sps := [⟨[2], [], [4], [(.slot 9)]⟩, ⟨[1, 2], [], [5], [(.slot 10)]⟩, ⟨[4], [], [6], [(.slot 4)]⟩, ⟨[5], [], [7], [(.slot 5)]⟩]) (es' := [(_, _), (_, _), (_, _), (4, .v (.int .i64 s13)), (5, .v (.int .i64 v4))]) (by kernel_rfl) rfl rfl
        ⟨st_plain rfl (op_move _ _ _ _ rfl rfl),
          st_plain rfl (op_index_arr _ _ _ _ 16 v3 Try.underlying64 sz3 rfl (congrArg (fun j => AV.v (Value.int .i64 j)) (ix_ok hv3).1) (ix_ok hv3).2 (map_get1 hv4) ⟨_, Try.underlying3, rfl⟩),
          st_plain rfl (op_assign _ _ _ _ rfl rfl),
          st_plain rfl (op_assign _ _ _ _ rfl rfl),
          trivial⟩ ?_
      refine pt_then ?_
      obtain ⟨v5, hv5, h⟩ := bind_some h
      obtain ⟨v6, hv6, h⟩ := bind_some h
      obtain ⟨v7, hv7, h⟩ := bind_some h
      refine ht_seqR hn (El := [_, _, _, _, _, (11, .v (.int .i64 s12)), (12, .v (.int .i64 v4)), (13, .v (.int .i64 s13)), (14, .v (.int .i64 v5)), (15, .v (.int .i64 v6)), (16, .v (.int .i64 v7)), (3, .v (.int .i64 v7))]) (init := [0, 1, 2, 3, 4]) (fin := [1, 2, 11]) (sps := [⟨[0], [], [5], [(.slot 11)]⟩, ⟨[4], [], [6], [(.slot 12)]⟩, ⟨[3], [], [7], [(.slot 13)]⟩, ⟨[7], [], [8], [(.slot 14)]⟩, ⟨[6, 8], [], [9], [(.slot 15)]⟩, ⟨[5, 9], [], [10], [(.slot 16)]⟩, ⟨[10], [0], [11], [(.slot 3)]⟩]) (es' := [(_, _), (_, _), (3, .v (.int .i64 v7))]) (by kernel_rfl) rfl rfl
        ⟨st_plain rfl (op_move _ _ _ _ rfl rfl),
          st_plain rfl (op_move _ _ _ _ rfl rfl),
          st_plain rfl (op_move _ _ _ _ rfl rfl),
          st_plain rfl (op_bin _ _ _ _ _ rfl rfl (ibind (f := Value.int .i64) (Option.some.inj hv5))),
          st_plain rfl (op_bin _ _ _ _ _ rfl rfl (shl_ok hv6)),
          st_plain rfl (op_bin _ _ _ _ _ rfl rfl (ibind (f := Value.int .i64) (Option.some.inj hv7))),
          st_plain rfl (LOp.drop [_] (op_assign _ _ _ _ rfl rfl)),
          trivial⟩ ?_
      refine pt_inb ?_
      refine pt_then ?_
      obtain ⟨v8, hv8, h⟩ := bind_some h
      refine ht_seqR hn (El := [_, _, _, (17, .v (.int .i64 v8)), (7, .v (.int .i64 v8))]) (init := [0, 1, 2]) (fin := [0, 2, 4]) (sps := [⟨[1], [], [3], [(.slot 17)]⟩, ⟨[3], [1], [4], [(.slot 7)]⟩]) (es' := [(_, _), (_, _), (7, .v (.int .i64 v8))]) (by kernel_rfl) rfl rfl
        ⟨st_plain rfl (op_bin _ _ _ _ _ rfl rfl (ibind (f := Value.int .i64) (Option.some.inj hv8))),
          st_plain rfl (LOp.drop [_] (op_move _ _ _ _ rfl rfl)),
          trivial⟩ ?_
      refine pt_pick [1, 0, 2] (by kernel_rfl) (es' := [(_, _), (_, _), (_, _)]) rfl ?_
      exact pt_next _ (Option.some.inj h).symm rfl
    · have h := cond_f hb22 h
      refine ht_exit ?_
      refine pt_x_then ?_
      refine pt_x_then ?_
      refine pt_x_in ?_
      refine pt_pick [0] (by kernel_rfl) (es' := [(_, _)]) rfl ?_
      exact hl17 _ (ho19 _ (Option.some.inj h).symm).symm

set_option maxHeartbeats 1000000 in
theorem ok_canon_forms (c : (List Int)) (r : Bool) (h : Sh.canon_forms c = some r) : FnOK Try.prog 39 [.v (.agg (List.map (Value.int .i64) c).toArray)] (.v (.bool r)) := by
  unfold Sh.canon_forms at h
  refine fn_ok Try.func39 rfl (Nat.le_of_ble_eq_true rfl) rfl rfl fun g0 hn hio => ?_
  refine ht_seq ?_
  refine ht_seqR hn (El := [_, (1, .arr 64 (List.map (Value.int .i64) c)), (2, .v (.bool false))]) (init := [0]) (fin := [1]) (sps := [⟨[0], [], [1], [(.slot 1)]⟩, ⟨[], [], [2], [(.slot 2)]⟩]) (es' := [(1, .arr 64 (List.map (Value.int .i64) c))]) (by kernel_rfl) rfl rfl
    ⟨st_plain rfl (op_box_arr _ _ _ rfl),
      st_plain rfl (op_assign _ _ _ _ rfl rfl),
      trivial⟩ ?_
  refine pt_then ?_
  refine ht_seq ?_
  obtain ⟨v1, hv1, h⟩ := bind_some h
  obtain ⟨v2, hv2, h⟩ := bind_some h
  refine ht_seqR hn (El := [_, (4, .v (.agg (List.map (Value.int .i64) [(0 : Int), 1, (0 : Int), (0 : Int), (0 : Int), (0 : Int), (0 : Int), (0 : Int), (0 : Int), (0 : Int), (0 : Int), (0 : Int), (0 : Int), (0 : Int), (0 : Int), (0 : Int)]).toArray)), (3, .arr 64 (List.map (Value.int .i64) ((List.replicate 16 (0 : Int))))), (3, .arr 64 (List.map (Value.int .i64) [(0 : Int), 1, (0 : Int), (0 : Int), (0 : Int), (0 : Int), (0 : Int), (0 : Int), (0 : Int), (0 : Int), (0 : Int), (0 : Int), (0 : Int), (0 : Int), (0 : Int), (0 : Int)]))]) (init := [0]) (fin := [0, 3]) (sps := [⟨[], [], [1], [(.slot 4)]⟩, ⟨[], [], [2], [(.slot 3)]⟩, ⟨[1], [2], [3], []⟩]) (es' := [(_, _), (3, .arr 64 (List.map (Value.int .i64) [(0 : Int), 1, (0 : Int), (0 : Int), (0 : Int), (0 : Int), (0 : Int), (0 : Int), (0 : Int), (0 : Int), (0 : Int), (0 : Int), (0 : Int), (0 : Int), (0 : Int), (0 : Int)]))]) (by kernel_rfl) rfl rfl
    ⟨st_plain rfl (op_build_arr _ _ (.agg #[.int .i64 0, .int .i64 0, .int .i64 0, .int .i64 0, .int .i64 0, .int .i64 0, .int .i64 0, .int .i64 0, .int .i64 0, .int .i64 0, .int .i64 0, .int .i64 0, .int .i64 0, .int .i64 0, .int .i64 0, .int .i64 0]) (List.map (Value.int .i64) [(0 : Int), 1, (0 : Int), (0 : Int), (0 : Int), (0 : Int), (0 : Int), (0 : Int), (0 : Int), (0 : Int), (0 : Int), (0 : Int), (0 : Int), (0 : Int), (0 : Int), (0 : Int)]) [(1, .int .i64 1)] Try.underlying64 sz3 zr64 (fun _ V w o a hv hes => by simp only [List.map_toArray, List.map_cons, List.map_nil]; try rfl) (litfill (by simp [Instr.fill, Value.cells]; rfl) (by simp))),
      st_plain rfl (op_alloc_arr _ za64),
      st_plain rfl (op_storeA_arr _ _ _ _ (sz64.trans (congrArg some (ln_len hv2))) rfl rfl (ln_ones (fun _ => rfl) _) ((ln_len (f := Value.int .i64) hv1).symm.trans (ln_len (f := Value.int .i64) hv2))),
      trivial⟩ ?_
  refine pt_then ?_
  refine ht_seq ?_
  refine ht_joinS h (fun (s12 : Bool) => [(2, .v (.bool s12))]) ?_ ?_
  · rintro s12 h
    refine pt_then ?_
    refine ht_ret ?_
    obtain rfl := Option.some.inj h
    exact pt_ret hio rfl (.tmp _ _ .nil) rfl rfl
  · intro u13 h hl14 hr15
    obtain ⟨v3, hv3, h⟩ := bind_some h
    obtain ⟨v4, hv4, h⟩ := bind_some h
    obtain ⟨v5, hv5, h⟩ := bind_some h
    refine cond_some h (fun hg2_3 h => ?_) (fun hg2_3 h => ?_)
    · refine ht_seqR hn (El := (_ :: _ :: (5, .v (.agg (List.map (Value.int .i64) c).toArray)) :: (6, .v (.agg (List.map (Value.int .i64) [(0 : Int), (0 : Int), (0 : Int), (0 : Int), (0 : Int), (0 : Int), (0 : Int), (0 : Int), (0 : Int), (0 : Int), (0 : Int), (0 : Int), (0 : Int), (0 : Int), (0 : Int), (0 : Int)]).toArray)) :: (7, .v (.bool ((c == [(0 : Int), (0 : Int), (0 : Int), (0 : Int), (0 : Int), (0 : Int), (0 : Int), (0 : Int), (0 : Int), (0 : Int), (0 : Int), (0 : Int), (0 : Int), (0 : Int), (0 : Int), (0 : Int)])))) :: (8, .v (.bool true)) :: (9, .v undef) :: (10, .v undef) :: (11, .v undef) :: (12, .v (.bool true)) :: (13, .v (.bool true)) :: (14, .v undef) :: (15, .v undef) :: (16, .v undef) :: (17, .v (.bool true)) :: (2, .v (.bool true)) :: [])) (init := [0, 1]) (fin := [15]) (sps := [⟨[0], [], [2], [(.slot 5)]⟩, ⟨[], [], [3], [(.slot 6)]⟩, ⟨[2, 3], [], [4], [(.slot 7)]⟩, ⟨[4], [], [5], [(.slot 8)]⟩, ⟨[5], [], [6], [(.slot 9)]⟩, ⟨[5], [], [7], [(.slot 10)]⟩, ⟨[5], [], [8], [(.slot 11)]⟩, ⟨[5], [], [9], [(.slot 12)]⟩, ⟨[9], [], [10], [(.slot 13)]⟩, ⟨[10], [], [11], [(.slot 14)]⟩, ⟨[10], [], [12], [(.slot 15)]⟩, ⟨[10], [], [13], [(.slot 16)]⟩, ⟨[10], [], [14], [(.slot 17)]⟩, ⟨[14], [], [15], [(.slot 2)]⟩]) (es' := [(2, .v (.bool true))]) (by kernel_rfl) rfl rfl
        ⟨st_plain rfl (op_loadA_arr _ _ _ _ Try.underlying64 rfl (sz64.trans (congrArg some (ln_len hv3))) rfl rfl),
          st_plain rfl (op_build_arr _ _ (.agg #[.int .i64 0, .int .i64 0, .int .i64 0, .int .i64 0, .int .i64 0, .int .i64 0, .int .i64 0, .int .i64 0, .int .i64 0, .int .i64 0, .int .i64 0, .int .i64 0, .int .i64 0, .int .i64 0, .int .i64 0, .int .i64 0]) (List.map (Value.int .i64) [(0 : Int), (0 : Int), (0 : Int), (0 : Int), (0 : Int), (0 : Int), (0 : Int), (0 : Int), (0 : Int), (0 : Int), (0 : Int), (0 : Int), (0 : Int), (0 : Int), (0 : Int), (0 : Int)]) [] Try.underlying64 sz3 zr64 (fun _ V w o a hv hes => by simp only [List.map_toArray, List.map_cons, List.map_nil]; try rfl) (litfill (by simp [Instr.fill, Value.cells]; rfl) (by simp))),
          st_plain rfl (op_eq_arr _ _ _ Try.underlying64 Try.underlying3 (i := Try.t3) (by kernel_rfl) (by kernel_rfl) (by kernel_rfl) rfl rfl (ln_n hv4) (ln_n hv5) rfl),
          st_plain rfl (op_move _ _ _ _ (congrArg (fun b => AV.v (Value.bool b)) hg2_3) rfl),
          st_skip 3 8 _ false rfl rfl rfl rfl (List.Mem.head _),
          st_skip 3 8 _ false rfl rfl rfl rfl (List.Mem.head _),
          st_skip 3 8 _ false rfl rfl rfl rfl (List.Mem.head _),
          st_plain rfl (op_pick _ _ true _ rfl rfl),
          st_plain rfl (op_move _ _ _ _ rfl rfl),
          st_skip 8 13 _ false rfl rfl rfl rfl (List.Mem.head _),
          st_skip 8 13 _ false rfl rfl rfl rfl (List.Mem.head _),
          st_skip 8 13 _ false rfl rfl rfl rfl (List.Mem.head _),
          st_plain rfl (op_pick _ _ true _ rfl rfl),
          st_plain rfl (op_assign _ _ _ _ rfl rfl),
          trivial⟩ ?_
      exact hl14 _ (Option.some.inj h).symm
    · obtain ⟨v6, hv6, h⟩ := bind_some h
      obtain ⟨v7, hv7, h⟩ := bind_some h
      obtain ⟨v8, hv8, h⟩ := bind_some h
      obtain ⟨v9, hv9, h⟩ := bind_some h
      refine cond_some h (fun hg2_8 h => ?_) (fun hg2_8 h => ?_)
      · refine ht_seqR hn (El := (_ :: _ :: (5, .v (.agg (List.map (Value.int .i64) c).toArray)) :: (6, .v (.agg (List.map (Value.int .i64) [(0 : Int), (0 : Int), (0 : Int), (0 : Int), (0 : Int), (0 : Int), (0 : Int), (0 : Int), (0 : Int), (0 : Int), (0 : Int), (0 : Int), (0 : Int), (0 : Int), (0 : Int), (0 : Int)]).toArray)) :: (7, .v (.bool ((c == [(0 : Int), (0 : Int), (0 : Int), (0 : Int), (0 : Int), (0 : Int), (0 : Int), (0 : Int), (0 : Int), (0 : Int), (0 : Int), (0 : Int), (0 : Int), (0 : Int), (0 : Int), (0 : Int)])))) :: (8, .v (.bool false)) :: (9, .v (.agg (List.map (Value.int .i64) c).toArray)) :: (10, .v (.agg (List.map (Value.int .i64) [(0 : Int), 1, (0 : Int), (0 : Int), (0 : Int), (0 : Int), (0 : Int), (0 : Int), (0 : Int), (0 : Int), (0 : Int), (0 : Int), (0 : Int), (0 : Int), (0 : Int), (0 : Int)]).toArray)) :: (11, .v (.bool ((c == [(0 : Int), 1, (0 : Int), (0 : Int), (0 : Int), (0 : Int), (0 : Int), (0 : Int), (0 : Int), (0 : Int), (0 : Int), (0 : Int), (0 : Int), (0 : Int), (0 : Int), (0 : Int)])))) :: (12, .v (.bool ((c == [(0 : Int), 1, (0 : Int), (0 : Int), (0 : Int), (0 : Int), (0 : Int), (0 : Int), (0 : Int), (0 : Int), (0 : Int), (0 : Int), (0 : Int), (0 : Int), (0 : Int), (0 : Int)])))) :: (13, .v (.bool true)) :: (14, .v undef) :: (15, .v undef) :: (16, .v undef) :: (17, .v (.bool true)) :: (2, .v (.bool true)) :: [])) (init := [0, 1]) (fin := [15]) (sps := [⟨[0], [], [2], [(.slot 5)]⟩, ⟨[], [], [3], [(.slot 6)]⟩, ⟨[2, 3], [], [4], [(.slot 7)]⟩, ⟨[4], [], [5], [(.slot 8)]⟩, ⟨[5, 0], [], [6], [(.slot 9)]⟩, ⟨[5, 1], [], [7], [(.slot 10)]⟩, ⟨[5, 6, 7], [], [8], [(.slot 11)]⟩, ⟨[5, 8], [], [9], [(.slot 12)]⟩, ⟨[9], [], [10], [(.slot 13)]⟩, ⟨[10], [], [11], [(.slot 14)]⟩, ⟨[10], [], [12], [(.slot 15)]⟩, ⟨[10], [], [13], [(.slot 16)]⟩, ⟨[10], [], [14], [(.slot 17)]⟩, ⟨[14], [], [15], [(.slot 2)]⟩]) (es' := [(2, .v (.bool true))]) (by kernel_rfl) rfl rfl
          ⟨st_plain rfl (op_loadA_arr _ _ _ _ Try.underlying64 rfl (sz64.trans (congrArg some (ln_len hv3))) rfl rfl),
            st_plain rfl (op_build_arr _ _ (.agg #[.int .i64 0, .int .i64 0, .int .i64 0, .int .i64 0, .int .i64 0, .int .i64 0, .int .i64 0, .int .i64 0, .int .i64 0, .int .i64 0, .int .i64 0, .int .i64 0, .int .i64 0, .int .i64 0, .int .i64 0, .int .i64 0]) (List.map (Value.int .i64) [(0 : Int), (0 : Int), (0 : Int), (0 : Int), (0 : Int), (0 : Int), (0 : Int), (0 : Int), (0 : Int), (0 : Int), (0 : Int), (0 : Int), (0 : Int), (0 : Int), (0 : Int), (0 : Int)]) [] Try.underlying64 sz3 zr64 (fun _ V w o a hv hes => by simp only [List.map_toArray, List.map_cons, List.map_nil]; try rfl) (litfill (by simp [Instr.fill, Value.cells]; rfl) (by simp))),
            st_plain rfl (op_eq_arr _ _ _ Try.underlying64 Try.underlying3 (i := Try.t3) (by kernel_rfl) (by kernel_rfl) (by kernel_rfl) rfl rfl (ln_n hv4) (ln_n hv5) rfl),
            st_plain rfl (op_move _ _ _ _ (congrArg (fun b => AV.v (Value.bool b)) hg2_3) rfl),
            st_run 3 8 false rfl rfl rfl (List.Mem.head _) (op_loadA_arr _ _ _ _ Try.underlying64 rfl (sz64.trans (congrArg some (ln_len hv6))) rfl rfl),
            st_run 3 8 false rfl rfl rfl (List.Mem.head _) (op_loadA_arr _ _ _ _ Try.underlying64 rfl (sz64.trans (congrArg some (ln_len hv7))) rfl rfl),
            st_run 3 8 false rfl rfl rfl (List.Mem.head _) (op_eq_arr _ _ _ Try.underlying64 Try.underlying3 (i := Try.t3) (by kernel_rfl) (by kernel_rfl) (by kernel_rfl) rfl rfl (ln_n hv8) (ln_n hv9) rfl),
            st_plain rfl (op_pick _ _ false _ rfl rfl),
            st_plain rfl (op_move _ _ _ _ (congrArg (fun b => AV.v (Value.bool b)) hg2_8) rfl),
            st_skip 8 13 _ false rfl rfl rfl rfl (List.Mem.head _),
            st_skip 8 13 _ false rfl rfl rfl rfl (List.Mem.head _),
            st_skip 8 13 _ false rfl rfl rfl rfl (List.Mem.head _),
            st_plain rfl (op_pick _ _ true _ rfl rfl),
            st_plain rfl (op_assign _ _ _ _ rfl rfl),
            trivial⟩ ?_
        exact hl14 _ (Option.some.inj h).symm
      · obtain ⟨v10, hv10, h⟩ := bind_some h
        obtain ⟨v11, hv11, h⟩ := bind_some h
        refine ht_seqR hn (El := (_ :: _ :: (5, .v (.agg (List.map (Value.int .i64) c).toArray)) :: (6, .v (.agg (List.map (Value.int .i64) [(0 : Int), (0 : Int), (0 : Int), (0 : Int), (0 : Int), (0 : Int), (0 : Int), (0 : Int), (0 : Int), (0 : Int), (0 : Int), (0 : Int), (0 : Int), (0 : Int), (0 : Int), (0 : Int)]).toArray)) :: (7, .v (.bool ((c == [(0 : Int), (0 : Int), (0 : Int), (0 : Int), (0 : Int), (0 : Int), (0 : Int), (0 : Int), (0 : Int), (0 : Int), (0 : Int), (0 : Int), (0 : Int), (0 : Int), (0 : Int), (0 : Int)])))) :: (8, .v (.bool false)) :: (9, .v (.agg (List.map (Value.int .i64) c).toArray)) :: (10, .v (.agg (List.map (Value.int .i64) [(0 : Int), 1, (0 : Int), (0 : Int), (0 : Int), (0 : Int), (0 : Int), (0 : Int), (0 : Int), (0 : Int), (0 : Int), (0 : Int), (0 : Int), (0 : Int), (0 : Int), (0 : Int)]).toArray)) :: (11, .v (.bool ((c == [(0 : Int), 1, (0 : Int), (0 : Int), (0 : Int), (0 : Int), (0 : Int), (0 : Int), (0 : Int), (0 : Int), (0 : Int), (0 : Int), (0 : Int), (0 : Int), (0 : Int), (0 : Int)])))) :: (12, .v (.bool ((c == [(0 : Int), 1, (0 : Int), (0 : Int), (0 : Int), (0 : Int), (0 : Int), (0 : Int), (0 : Int), (0 : Int), (0 : Int), (0 : Int), (0 : Int), (0 : Int), (0 : Int), (0 : Int)])))) :: (13, .v (.bool false)) :: (14, .v (.agg (List.map (Value.int .i64) c).toArray)) :: (15, .v (.int .i64 v11)) :: (16, .v (.bool (v11 == 32768))) :: (17, .v (.bool (v11 == 32768))) :: (2, .v (.bool (v11 == 32768))) :: [])) (init := [0, 1]) (fin := [15]) (sps := [⟨[0], [], [2], [(.slot 5)]⟩, ⟨[], [], [3], [(.slot 6)]⟩, ⟨[2, 3], [], [4], [(.slot 7)]⟩, ⟨[4], [], [5], [(.slot 8)]⟩, ⟨[5, 0], [], [6], [(.slot 9)]⟩, ⟨[5, 1], [], [7], [(.slot 10)]⟩, ⟨[5, 6, 7], [], [8], [(.slot 11)]⟩, ⟨[5, 8], [], [9], [(.slot 12)]⟩, ⟨[9], [], [10], [(.slot 13)]⟩, ⟨[10, 0], [], [11], [(.slot 14)]⟩, ⟨[10, 11], [], [12], [(.slot 15)]⟩, ⟨[10, 12], [], [13], [(.slot 16)]⟩, ⟨[10, 13], [], [14], [(.slot 17)]⟩, ⟨[14], [], [15], [(.slot 2)]⟩]) (es' := [(2, .v (.bool (v11 == 32768)))]) (by kernel_rfl) rfl rfl
          ⟨st_plain rfl (op_loadA_arr _ _ _ _ Try.underlying64 rfl (sz64.trans (congrArg some (ln_len hv3))) rfl rfl),
            st_plain rfl (op_build_arr _ _ (.agg #[.int .i64 0, .int .i64 0, .int .i64 0, .int .i64 0, .int .i64 0, .int .i64 0, .int .i64 0, .int .i64 0, .int .i64 0, .int .i64 0, .int .i64 0, .int .i64 0, .int .i64 0, .int .i64 0, .int .i64 0, .int .i64 0]) (List.map (Value.int .i64) [(0 : Int), (0 : Int), (0 : Int), (0 : Int), (0 : Int), (0 : Int), (0 : Int), (0 : Int), (0 : Int), (0 : Int), (0 : Int), (0 : Int), (0 : Int), (0 : Int), (0 : Int), (0 : Int)]) [] Try.underlying64 sz3 zr64 (fun _ V w o a hv hes => by simp only [List.map_toArray, List.map_cons, List.map_nil]; try rfl) (litfill (by simp [Instr.fill, Value.cells]; rfl) (by simp))),
            st_plain rfl (op_eq_arr _ _ _ Try.underlying64 Try.underlying3 (i := Try.t3) (by kernel_rfl) (by kernel_rfl) (by kernel_rfl) rfl rfl (ln_n hv4) (ln_n hv5) rfl),
            st_plain rfl (op_move _ _ _ _ (congrArg (fun b => AV.v (Value.bool b)) hg2_3) rfl),
            st_run 3 8 false rfl rfl rfl (List.Mem.head _) (op_loadA_arr _ _ _ _ Try.underlying64 rfl (sz64.trans (congrArg some (ln_len hv6))) rfl rfl),
            st_run 3 8 false rfl rfl rfl (List.Mem.head _) (op_loadA_arr _ _ _ _ Try.underlying64 rfl (sz64.trans (congrArg some (ln_len hv7))) rfl rfl),
            st_run 3 8 false rfl rfl rfl (List.Mem.head _) (op_eq_arr _ _ _ Try.underlying64 Try.underlying3 (i := Try.t3) (by kernel_rfl) (by kernel_rfl) (by kernel_rfl) rfl rfl (ln_n hv8) (ln_n hv9) rfl),
            st_plain rfl (op_pick _ _ false _ rfl rfl),
            st_plain rfl (op_move _ _ _ _ (congrArg (fun b => AV.v (Value.bool b)) hg2_8) rfl),
            st_run 8 13 false rfl rfl rfl (List.Mem.head _) (op_loadA_arr _ _ _ _ Try.underlying64 rfl (sz64.trans (congrArg some (ln_len hv10))) rfl rfl),
            st_run 8 13 false rfl rfl rfl (List.Mem.head _) (op_call _ _ 44 _ _ rfl Try.call44 rfl (ok_canon_tally_weight c _ hv11) rfl rfl),
            st_run 8 13 false rfl rfl rfl (List.Mem.head _) (op_bin _ _ _ _ _ rfl rfl rfl),
            st_plain rfl (op_pick _ _ false _ rfl rfl),
            st_plain rfl (op_assign _ _ _ _ rfl rfl),
            trivial⟩ ?_
        exact hl14 _ (Option.some.inj h).symm

set_option maxHeartbeats 1000000 in
theorem ok_canon_Check (lengths : (List Int)) (r : Int) (h : Sh.canon_Check lengths = some r) : FnOK Try.prog 25 [.fl .shr 1 (List.map (Value.int .i64) lengths)] (.v (.int .i64 r)) := by
  unfold Sh.canon_Check at h
  refine fn_ok Try.func25 rfl (Nat.le_of_ble_eq_true rfl) rfl rfl fun g0 hn hio => ?_
  refine ht_seq ?_
  refine ht_seqR hn (El := [_, (2, .v (.int .i64 0))]) (init := [0]) (fin := [0]) (sps := [⟨[], [], [1], [(.slot 2)]⟩]) (es' := [(_, _)]) (by kernel_rfl) rfl rfl
    ⟨st_plain rfl (op_assign _ _ _ _ rfl rfl),
      trivial⟩ ?_
  refine pt_then ?_
  refine ht_seq ?_
  refine ht_seq ?_
  obtain ⟨v1, hv1, h⟩ := bind_some h
  refine ht_seqR hn (El := [_, (3, .fl .shr 1 (List.map (Value.int .i64) lengths)), (4, .v (.bool v1)), (5, .v (.bool (!v1)))]) (init := [0]) (fin := [0, 3]) (sps := [⟨[0], [], [1], [(.slot 3)]⟩, ⟨[1], [], [2], [(.slot 4)]⟩, ⟨[2], [], [3], [(.slot 5)]⟩]) (es' := [(_, _), (5, .v (.bool (!v1)))]) (by kernel_rfl) rfl rfl
    ⟨st_plain rfl (op_move _ _ _ _ rfl rfl),
      st_plain rfl (op_call _ _ 38 _ _ rfl Try.call38 rfl (ok_canon_valid lengths _ hv1) rfl rfl),
      st_plain rfl (op_un _ _ _ _ rfl rfl),
      trivial⟩ ?_
  refine pt_then ?_
  refine ht_cond _ rfl (fun hb2 => ?_) (fun hb2 => ?_)
  · have h := cond_t hb2 h
    refine ht_seq ?_
    refine ht_seqR hn (El := [_, _, (2, .v (.int .i64 1))]) (init := [0, 1]) (fin := [2]) (sps := [⟨[], [], [2], [(.slot 2)]⟩]) (es' := [(2, .v (.int .i64 1))]) (by kernel_rfl) rfl rfl
      ⟨st_plain rfl (op_assign _ _ _ _ rfl rfl),
        trivial⟩ ?_
    refine pt_then ?_
    refine ht_ret ?_
    refine pt_r_then ?_
    obtain rfl := Option.some.inj h
    exact pt_ret hio rfl (.tmp _ _ .nil) rfl rfl
  · have h := cond_f hb2 h
    refine ht_skip ?_
    refine pt_then ?_
    refine ht_seq ?_
    refine ht_seq ?_
    obtain ⟨v3, hv3, h⟩ := bind_some h
    obtain ⟨v4, hv4, h⟩ := bind_some h
    refine ht_seqR hn (El := [_, _, (6, .fl .shr 1 (List.map (Value.int .i64) lengths)), (7, .v (.agg (List.map (Value.int .i64) v3).toArray)), (8, .v (.bool v4)), (9, .v (.bool (!v4)))]) (init := [0, 1]) (fin := [5]) (sps := [⟨[0], [], [2], [(.slot 6)]⟩, ⟨[2], [], [3], [(.slot 7)]⟩, ⟨[3], [], [4], [(.slot 8)]⟩, ⟨[4], [], [5], [(.slot 9)]⟩]) (es' := [(9, .v (.bool (!v4)))]) (by kernel_rfl) rfl rfl
      ⟨st_plain rfl (op_move _ _ _ _ rfl rfl),
        st_plain rfl (op_call _ _ 40 _ _ rfl Try.call40 rfl (ok_canon_count lengths _ hv3) rfl rfl),
        st_plain rfl (op_call _ _ 39 _ _ rfl Try.call39 rfl (ok_canon_forms v3 _ hv4) rfl rfl),
        st_plain rfl (op_un _ _ _ _ rfl rfl),
        trivial⟩ ?_
    refine pt_then ?_
    refine ht_cond _ rfl (fun hb5 => ?_) (fun hb5 => ?_)
    · have h := cond_t hb5 h
      refine ht_seq ?_
      refine ht_seqR hn (El := [_, (2, .v (.int .i64 4))]) (init := [0]) (fin := [1]) (sps := [⟨[], [], [1], [(.slot 2)]⟩]) (es' := [(2, .v (.int .i64 4))]) (by kernel_rfl) rfl rfl
        ⟨st_plain rfl (op_assign _ _ _ _ rfl rfl),
          trivial⟩ ?_
      refine pt_then ?_
      refine ht_ret ?_
      refine pt_r_then ?_
      obtain rfl := Option.some.inj h
      exact pt_ret hio rfl (.tmp _ _ .nil) rfl rfl
    · have h := cond_f hb5 h
      refine ht_skip ?_
      refine pt_then ?_
      refine ht_seq ?_
      refine ht_seqR hn (El := [_, (2, .v (.int .i64 0))]) (init := [0]) (fin := [1]) (sps := [⟨[], [], [1], [(.slot 2)]⟩]) (es' := [(2, .v (.int .i64 0))]) (by kernel_rfl) rfl rfl
        ⟨st_plain rfl (op_assign _ _ _ _ rfl rfl),
          trivial⟩ ?_
      refine pt_then ?_
      refine ht_ret ?_
      obtain rfl := Option.some.inj h
      exact pt_ret hio rfl (.tmp _ _ .nil) rfl rfl

set_option maxHeartbeats 1000000 in
theorem ok_canon_firsts (c : (List Int)) (r : (List Int)) (h : Sh.canon_firsts c = some r) : FnOK Try.prog 41 [.v (.agg (List.map (Value.int .i64) c).toArray)] (.v (.agg (List.map (Value.int .i64) r).toArray)) := by
  unfold Sh.canon_firsts at h
  refine fn_ok Try.func41 rfl (Nat.le_of_ble_eq_true rfl) rfl rfl fun g0 hn hio => ?_
  refine ht_seq ?_
  refine ht_seqR hn (El := [_, (1, .arr 64 (List.map (Value.int .i64) c)), (2, .arr 64 (List.map (Value.int .i64) ((List.replicate 16 (0 : Int)))))]) (init := [0]) (fin := [1, 2]) (sps := [⟨[0], [], [1], [(.slot 1)]⟩, ⟨[], [], [2], [(.slot 2)]⟩]) (es' := [(1, .arr 64 (List.map (Value.int .i64) c)), (2, .arr 64 (List.map (Value.int .i64) ((List.replicate 16 (0 : Int)))))]) (by kernel_rfl) rfl rfl
    ⟨st_plain rfl (op_box_arr _ _ _ rfl),
      st_plain rfl (op_alloc_arr _ za64),
      trivial⟩ ?_
  refine pt_then ?_
  refine ht_seq ?_
  refine ht_seqR hn (El := [_, _, (3, .arr 64 (List.map (Value.int .i64) ((List.replicate 16 (0 : Int)))))]) (init := [0, 1]) (fin := [0, 1, 2]) (sps := [⟨[], [], [2], [(.slot 3)]⟩]) (es' := [(_, _), (_, _), (3, .arr 64 (List.map (Value.int .i64) ((List.replicate 16 (0 : Int)))))]) (by kernel_rfl) rfl rfl
    ⟨st_plain rfl (op_alloc_arr _ za64),
      trivial⟩ ?_
  refine pt_then ?_
  refine ht_seq ?_
  refine ht_seq ?_
  refine ht_seqR hn (El := [_, _, _, (4, .v (.int .i64 2))]) (init := [0, 1, 2]) (fin := [0, 1, 2, 3]) (sps := [⟨[], [], [3], [(.slot 4)]⟩]) (es' := [(_, _), (_, _), (_, _), (4, .v (.int .i64 2))]) (by kernel_rfl) rfl rfl
    ⟨st_plain rfl (op_assign _ _ _ _ rfl rfl),
      trivial⟩ ?_
  refine pt_then ?_
  refine ht_loopS h (fun ((s16, s17) : (List Int) × Int) => [(1, .arr 64 (List.map (Value.int .i64) c)), (2, .arr 64 (List.map (Value.int .i64) ((List.replicate 16 (0 : Int))))), (3, .arr 64 (List.map (Value.int .i64) s16)), (4, .v (.int .i64 s17))]) (fun (s19 : (List Int)) => [(2, .arr 64 (List.map (Value.int .i64) ((List.replicate 16 (0 : Int))))), (3, .arr 64 (List.map (Value.int .i64) s19))]) ?_ ?_
  · rintro s19 h
    refine pt_then ?_
    refine ht_seq ?_
    obtain ⟨v27, hv27, h⟩ := bind_some h
    obtain ⟨v28, hv28, h⟩ := bind_some h
    obtain ⟨v29, hv29, h⟩ := bind_some h
    refine ht_seqR hn (El := [_, _, (21, .v (.agg (List.map (Value.int .i64) s19).toArray)), (2, .arr 64 (List.map (Value.int .i64) s19))]) (init := [0, 1]) (fin := [3]) (sps := [⟨[1], [], [2], [(.slot 21)]⟩, ⟨[2], [0], [3], []⟩]) (es' := [(2, .arr 64 (List.map (Value.int .i64) s19))]) (by kernel_rfl) rfl rfl
      ⟨st_plain rfl (op_loadA_arr _ _ _ _ Try.underlying64 rfl (sz64.trans (congrArg some (ln_len hv27))) rfl rfl),
        st_plain rfl (op_storeA_arr _ _ _ _ (sz64.trans (congrArg some (ln_len hv29))) rfl rfl (ln_ones (fun _ => rfl) _) ((ln_len (f := Value.int .i64) hv28).symm.trans (ln_len (f := Value.int .i64) hv29))),
        trivial⟩ ?_
    refine pt_then ?_
    refine ht_ret ?_
    obtain ⟨v30, hv30, h⟩ := bind_some h
    obtain rfl := Option.some.inj h
    exact pt_ret hio rfl (.cellR _ _ _ _ Try.underlying64 rfl (sz64.trans (congrArg some (ln_len hv30))) .nil) rfl rfl
  · rintro u20 hl21 hr22 ⟨s16, s17⟩ rr25 h ho23
    refine ht_seq ?_
    refine ht_seq ?_
    refine ht_seqR hn (El := [_, _, _, _, (5, .v (.int .i64 s17)), (6, .v (.bool ((decide (s17 ≤ 15)))))]) (init := [0, 1, 2, 3]) (fin := [0, 1, 2, 3, 5]) (sps := [⟨[3], [], [4], [(.slot 5)]⟩, ⟨[4], [], [5], [(.slot 6)]⟩]) (es' := [(_, _), (_, _), (_, _), (_, _), (6, .v (.bool ((decide (s17 ≤ 15)))))]) (by kernel_rfl) rfl rfl
      ⟨st_plain rfl (op_move _ _ _ _ rfl rfl),
        st_plain rfl (op_bin _ _ _ _ _ rfl rfl rfl),
        trivial⟩ ?_
    refine pt_then ?_
    refine ht_cond _ rfl (fun hb26 => ?_) (fun hb26 => ?_)
    · have h := cond_t hb26 h
      refine ht_skip ?_
      refine pt_then ?_
      refine ht_seq ?_
      refine ht_block ?_
      obtain ⟨v2, hv2, h⟩ := bind_some h
      obtain ⟨v3, hv3, h⟩ := bind_some h
      obtain ⟨v4, hv4, h⟩ := bind_some h
      obtain ⟨v5, hv5, h⟩ := bind_some h
      obtain ⟨v6, hv6, h⟩ := bind_some h
      obtain ⟨v7, hv7, h⟩ := bind_some h
      obtain ⟨v8, hv8, h⟩ := bind_some h
      obtain ⟨v9, hv9, h⟩ := bind_some h
      obtain ⟨v10, hv10, h⟩ := bind_some h
      obtain ⟨v11, hv11, h⟩ := bind_some h
      refine ht_anyR (by kernel_rfl) hn (El := (_ :: _ :: _ :: _ :: _ :: (9, .v (.int .i64 s17)) :: (10, .v (.int .i64 s17)) :: (11, .v (.int .i64 v2)) :: (12, .ptr 3 v3) :: (13, .v (.int .i64 v4)) :: (14, .v (.int .i64 s17)) :: (15, .v (.int .i64 v5)) :: (16, .ptr 1 v6) :: (17, .v (.int .i64 v7)) :: (18, .v (.int .i64 v8)) :: (19, .v (.int .i64 v9)) :: (20, .ptr 3 v10) :: (3, .arr 64 (List.map (Value.int .i64) v11)) :: [])) (init := [0, 1, 2, 3, 4]) (fin := [0, 1, 17, 3]) (sps := [⟨[3], [], [5], [(.slot 9)]⟩, ⟨[3], [], [6], [(.slot 10)]⟩, ⟨[6], [], [7], [(.slot 11)]⟩, ⟨[2, 7], [], [8], [(.slot 12)]⟩, ⟨[8, 2], [], [9], [(.slot 13)]⟩, ⟨[3], [], [10], [(.slot 14)]⟩, ⟨[10], [], [11], [(.slot 15)]⟩, ⟨[0, 11], [], [12], [(.slot 16)]⟩, ⟨[12, 0], [], [13], [(.slot 17)]⟩, ⟨[9, 13], [], [14], [(.slot 18)]⟩, ⟨[14], [], [15], [(.slot 19)]⟩, ⟨[2, 5], [], [16], [(.slot 20)]⟩, ⟨[16, 15], [2], [17], []⟩]) (es' := [(_, _), (_, _), (3, .arr 64 (List.map (Value.int .i64) v11)), (_, _)]) (by kernel_rfl) rfl rfl
        ⟨st_plain rfl (op_move _ _ _ _ rfl rfl),
          st_plain rfl (op_move _ _ _ _ rfl rfl),
          st_plain rfl (op_bin _ _ _ _ _ rfl rfl (ibind (f := Value.int .i64) (Option.some.inj hv2))),
          st_plain rfl (op_ix_arr _ _ _ _ 16 3 _ Try.underlying64 sz3 rfl rfl (ix_ok hv3).1 (ix_ok hv3).2 (by decide)),
          st_plain rfl (op_load_arr _ _ _ _ _ _ Try.underlying3 rfl rfl rfl (map_get1 hv4)),
          st_plain rfl (op_move _ _ _ _ rfl rfl),
          st_plain rfl (op_bin _ _ _ _ _ rfl rfl (ibind (f := Value.int .i64) (Option.some.inj hv5))),
          st_plain rfl (op_ix_arr _ _ _ _ 16 1 _ Try.underlying64 sz3 rfl rfl (ix_ok hv6).1 (ix_ok hv6).2 (by decide)),
          st_plain rfl (op_load_arr _ _ _ _ _ _ Try.underlying3 rfl rfl rfl (map_get1 hv7)),
          st_plain rfl (op_bin _ _ _ _ _ rfl rfl (ibind (f := Value.int .i64) (Option.some.inj hv8))),
          st_plain rfl (op_bin _ _ _ _ _ rfl rfl (ibind (f := Value.int .i64) (Option.some.inj hv9))),
          st_plain rfl (op_ix_arr _ _ _ _ 16 3 _ Try.underlying64 sz3 rfl rfl (ix_ok hv10).1 (ix_ok hv10).2 (by decide)),
          st_plain rfl (op_store_arr _ _ _ _ _ _ sz3 rfl rfl rfl rfl (set_lt hv11) (set_eq (f := Value.int .i64) hv11)),
          trivial⟩ ?_
      refine pt_inb ?_
      refine pt_then ?_
      obtain ⟨v12, hv12, h⟩ := bind_some h
      refine ht_seqR hn (El := [_, _, _, _, (7, .v (.int .i64 s17)), (8, .v (.int .i64 v12)), (4, .v (.int .i64 v12))]) (init := [0, 1, 2, 3]) (fin := [0, 1, 2, 6]) (sps := [⟨[3], [], [4], [(.slot 7)]⟩, ⟨[4], [], [5], [(.slot 8)]⟩, ⟨[5], [3], [6], [(.slot 4)]⟩]) (es' := [(_, _), (_, _), (_, _), (4, .v (.int .i64 v12))]) (by kernel_rfl) rfl rfl
        ⟨st_plain rfl (op_move _ _ _ _ rfl rfl),
          st_plain rfl (op_bin _ _ _ _ _ rfl rfl (ibind (f := Value.int .i64) (Option.some.inj hv12))),
          st_plain rfl (LOp.drop [_] (op_assign _ _ _ _ rfl rfl)),
          trivial⟩ ?_
      exact pt_next _ (Option.some.inj h).symm rfl
    · have h := cond_f hb26 h
      refine ht_exit ?_
      refine pt_x_then ?_
      refine pt_x_then ?_
      refine pt_x_in ?_
      refine pt_pick [1, 2] (by kernel_rfl) (es' := [(_, _), (_, _)]) rfl ?_
      exact hl21 _ (ho23 _ (Option.some.inj h).symm).symm

set_option maxHeartbeats 1000000 in
theorem ok_canon_Codes (lengths : (List Int)) (r : ((List Int) × Int)) (h : Sh.canon_Codes lengths = some r) : FnOK Try.prog 26 [.fl .shr 1 (List.map (Value.int .i64) lengths)] (.tup [.fl (.own 3) 1 (List.map (Value.int .i64) r.1), .v (.int .i64 r.2)]) := by
  unfold Sh.canon_Codes at h
  refine fn_ok Try.func26 rfl (Nat.le_of_ble_eq_true rfl) rfl rfl fun g0 hn hio => ?_
  refine ht_seq ?_
  refine ht_seqR hn (El := [_, (2, .v (.slice none 0 0)), (3, .v (.int .i64 0))]) (init := [0]) (fin := [0]) (sps := [⟨[], [], [1], [(.slot 2)]⟩, ⟨[], [], [2], [(.slot 3)]⟩]) (es' := [(_, _)]) (by kernel_rfl) rfl rfl
    ⟨st_plain rfl (op_assign _ _ _ _ rfl rfl),
      st_plain rfl (op_assign _ _ _ _ rfl rfl),
      trivial⟩ ?_
  refine pt_then ?_
  refine ht_seq ?_
  refine ht_seq ?_
  obtain ⟨v1, hv1, h⟩ := bind_some h
  refine ht_seqR hn (El := [_, (9, .fl .shr 1 (List.map (Value.int .i64) lengths)), (10, .v (.int .i64 v1)), (4, .v (.int .i64 v1))]) (init := [0]) (fin := [0, 3]) (sps := [⟨[0], [], [1], [(.slot 9)]⟩, ⟨[1], [], [2], [(.slot 10)]⟩, ⟨[2], [], [3], [(.slot 4)]⟩]) (es' := [(_, _), (4, .v (.int .i64 v1))]) (by kernel_rfl) rfl rfl
    ⟨st_plain rfl (op_move _ _ _ _ rfl rfl),
      st_plain rfl (op_call _ _ 25 _ _ rfl Try.call25 rfl (ok_canon_Check lengths _ hv1) rfl rfl),
      st_plain rfl (op_assign _ _ _ _ rfl rfl),
      trivial⟩ ?_
  refine pt_then ?_
  refine ht_seq ?_
  refine ht_seqR hn (El := [_, _, (11, .v (.int .i64 v1)), (12, .v (.bool (v1 != 0)))]) (init := [0, 1]) (fin := [0, 1, 3]) (sps := [⟨[1], [], [2], [(.slot 11)]⟩, ⟨[2], [], [3], [(.slot 12)]⟩]) (es' := [(_, _), (_, _), (12, .v (.bool (v1 != 0)))]) (by kernel_rfl) rfl rfl
    ⟨st_plain rfl (op_move _ _ _ _ rfl rfl),
      st_plain rfl (op_bin _ _ _ _ _ rfl rfl rfl),
      trivial⟩ ?_
  refine pt_then ?_
  refine ht_cond _ rfl (fun hb2 => ?_) (fun hb2 => ?_)
  · have h := cond_t hb2 h
    refine ht_seq ?_
    refine ht_seqR hn (El := [_, _, _, (13, .v (.int .i64 v1)), (2, .v (.slice none 0 0)), (3, .v (.int .i64 v1))]) (init := [0, 1, 2]) (fin := [4, 5]) (sps := [⟨[1], [], [3], [(.slot 13)]⟩, ⟨[], [], [4], [(.slot 2)]⟩, ⟨[3], [], [5], [(.slot 3)]⟩]) (es' := [(2, .v (.slice none 0 0)), (3, .v (.int .i64 v1))]) (by kernel_rfl) rfl rfl
      ⟨st_plain rfl (op_move _ _ _ _ rfl rfl),
        st_plain rfl (op_assign _ _ _ _ rfl rfl),
        st_plain rfl (op_assign _ _ _ _ rfl rfl),
        trivial⟩ ?_
    refine pt_then ?_
    refine ht_ret ?_
    refine pt_sub (fs := [(2, .fl (.own 3) 1 (List.map (Value.int .i64) [])), (3, .v (.int .i64 v1))]) (.sub _ (sub_nil 3 1) rfl (.same _ .nil)) ?_
    refine pt_r_then ?_
    obtain rfl := Option.some.inj h
    exact pt_ret hio rfl (.tmp _ _ (.tmp _ _ .nil)) rfl rfl
  · have h := cond_f hb2 h
    refine ht_skip ?_
    refine pt_then ?_
    refine ht_seq ?_
    obtain ⟨v3, hv3, h⟩ := bind_some h
    obtain ⟨v4, hv4, h⟩ := bind_some h
    obtain ⟨v5, hv5, h⟩ := bind_some h
    obtain ⟨v6, hv6, h⟩ := bind_some h
    refine ht_seqR hn (El := [_, _, _, (14, .fl .shr 1 (List.map (Value.int .i64) lengths)), (15, .v (.agg (List.map (Value.int .i64) v3).toArray)), (16, .v (.agg (List.map (Value.int .i64) v4).toArray)), (5, .arr 64 (List.map (Value.int .i64) ((List.replicate 16 (0 : Int))))), (5, .arr 64 (List.map (Value.int .i64) v4))]) (init := [0, 1, 2]) (fin := [0, 7]) (sps := [⟨[0], [], [3], [(.slot 14)]⟩, ⟨[3], [], [4], [(.slot 15)]⟩, ⟨[4], [], [5], [(.slot 16)]⟩, ⟨[], [], [6], [(.slot 5)]⟩, ⟨[5], [6], [7], []⟩]) (es' := [(_, _), (5, .arr 64 (List.map (Value.int .i64) v4))]) (by kernel_rfl) rfl rfl
      ⟨st_plain rfl (op_move _ _ _ _ rfl rfl),
        st_plain rfl (op_call _ _ 40 _ _ rfl Try.call40 rfl (ok_canon_count lengths _ hv3) rfl rfl),
        st_plain rfl (op_call _ _ 41 _ _ rfl Try.call41 rfl (ok_canon_firsts v3 _ hv4) rfl rfl),
        st_plain rfl (op_alloc_arr _ za64),
        st_plain rfl (op_storeA_arr _ _ _ _ (sz64.trans (congrArg some (ln_len hv6))) rfl rfl (ln_ones (fun _ => rfl) _) ((ln_len (f := Value.int .i64) hv5).symm.trans (ln_len (f := Value.int .i64) hv6))),
        trivial⟩ ?_
    refine pt_then ?_
    refine ht_seq ?_
    obtain ⟨v7, hv7, h⟩ := bind_some h
    refine ht_seqR hn (El := [_, _, (17, .fl .shr 1 (List.map (Value.int .i64) lengths)), (18, .v (.int .i64 (lengths.length : Int))), (19, .fl (.own 3) 1 (List.map (Value.int .i64) v7)), (6, .fl (.own 3) 1 (List.map (Value.int .i64) v7))]) (init := [0, 1]) (fin := [0, 1, 5]) (sps := [⟨[0], [], [2], [(.slot 17)]⟩, ⟨[2], [], [3], [(.slot 18)]⟩, ⟨[3], [], [4], [(.slot 19)]⟩, ⟨[], [4], [5], [(.slot 6)]⟩]) (es' := [(_, _), (_, _), (6, .fl (.own 3) 1 (List.map (Value.int .i64) v7))]) (by kernel_rfl) rfl rfl
      ⟨st_plain rfl (op_move _ _ _ _ rfl rfl),
        st_plain rfl (op_len_fl _ _ _ Try.underlying28 rfl (by decide) (map_len _)),
        st_plain rfl (op_mk (f := Value.int .i64) _ _ _ _ el28 (by decide) zr3 rfl rfl rfl hv7),
        st_plain rfl (op_assign_take _ _ _ _ rfl),
        trivial⟩ ?_
    refine pt_then ?_
    refine ht_seq ?_
    refine ht_seq ?_
    refine ht_seqR hn (El := [_, _, _, (20, .fl .shr 1 (List.map (Value.int .i64) lengths)), (21, .v (.int .i64 (lengths.length : Int))), (22, .v (.int .i64 0))]) (init := [0, 1, 2]) (fin := [1, 2, 3, 4, 5]) (sps := [⟨[0], [], [3], [(.slot 20)]⟩, ⟨[3], [], [4], [(.slot 21)]⟩, ⟨[], [], [5], [(.slot 22)]⟩]) (es' := [(_, _), (_, _), (20, .fl .shr 1 (List.map (Value.int .i64) lengths)), (21, .v (.int .i64 (lengths.length : Int))), (22, .v (.int .i64 0))]) (by kernel_rfl) rfl rfl
      ⟨st_plain rfl (op_move _ _ _ _ rfl rfl),
        st_plain rfl (op_len_fl _ _ _ Try.underlying28 rfl (by decide) (map_len _)),
        st_plain rfl (op_move _ _ _ _ rfl rfl),
        trivial⟩ ?_
    refine pt_then ?_
    refine ht_loopS h (fun ((s39, s40, s41) : (List Int) × (List Int) × Int) => [(5, .arr 64 (List.map (Value.int .i64) s39)), (6, .fl (.own 3) 1 (List.map (Value.int .i64) s40)), (20, .fl .shr 1 (List.map (Value.int .i64) lengths)), (21, .v (.int .i64 (lengths.length : Int))), (22, .v (.int .i64 s41))]) (fun (s50 : (List Int)) => [(6, .fl (.own 3) 1 (List.map (Value.int .i64) s50))]) ?_ ?_
    · rintro s50 h
      refine pt_then ?_
      refine ht_seq ?_
      refine ht_seqR hn (El := [_, (41, .fl (.own 3) 1 (List.map (Value.int .i64) s50)), (2, .fl (.own 3) 1 (List.map (Value.int .i64) s50)), (3, .v (.int .i64 0))]) (init := [0]) (fin := [2, 3]) (sps := [⟨[], [0], [1], [(.slot 41)]⟩, ⟨[], [1], [2], [(.slot 2)]⟩, ⟨[], [], [3], [(.slot 3)]⟩]) (es' := [(2, .fl (.own 3) 1 (List.map (Value.int .i64) s50)), (3, .v (.int .i64 0))]) (by kernel_rfl) rfl rfl
        ⟨st_plain rfl (op_move_take _ _ _ _ rfl),
          st_plain rfl (op_assign_take _ _ _ _ rfl),
          st_plain rfl (op_assign _ _ _ _ rfl rfl),
          trivial⟩ ?_
      refine pt_then ?_
      refine ht_ret ?_
      obtain rfl := Option.some.inj h
      exact pt_ret hio rfl (.tmp _ _ (.tmp _ _ .nil)) rfl rfl
    · rintro u51 hl52 hr53 ⟨s39, s40, s41⟩ rr56 h ho54
      refine ht_seq ?_
      refine ht_seqR hn (El := [_, _, _, _, _, (23, .v (.bool ((decide (s41 < (lengths.length : Int))))))]) (init := [0, 1, 2, 3, 4]) (fin := [0, 1, 2, 3, 4, 5]) (sps := [⟨[4, 3], [], [5], [(.slot 23)]⟩]) (es' := [(_, _), (_, _), (_, _), (_, _), (_, _), (23, .v (.bool ((decide (s41 < (lengths.length : Int))))))]) (by kernel_rfl) rfl rfl
        ⟨st_plain rfl (op_bin _ _ _ _ _ rfl rfl rfl),
          trivial⟩ ?_
      refine pt_then ?_
      refine ht_seq ?_
      refine ht_cond _ rfl (fun hb57 => ?_) (fun hb57 => ?_)
      · have h := cond_t hb57 h
        refine ht_skip ?_
        refine pt_then ?_
        refine ht_seq ?_
        refine ht_joinS h (fun ((s59, s60) : (List Int) × (List Int)) => [(5, .arr 64 (List.map (Value.int .i64) s59)), (6, .fl (.own 3) 1 (List.map (Value.int .i64) s60)), (20, .fl .shr 1 (List.map (Value.int .i64) lengths)), (21, .v (.int .i64 (lengths.length : Int))), (22, .v (.int .i64 s41))]) ?_ ?_
        · rintro ⟨s59, s60⟩ h
          refine pt_then ?_
          obtain ⟨v27, hv27, h⟩ := bind_some h
          refine ht_seqR hn (El := [_, _, _, _, _, (40, .v (.int .i64 v27)), (22, .v (.int .i64 v27))]) (init := [0, 1, 2, 3, 4]) (fin := [0, 1, 2, 3, 6]) (sps := [⟨[4], [], [5], [(.slot 40)]⟩, ⟨[5], [4], [6], [(.slot 22)]⟩]) (es' := [(_, _), (_, _), (_, _), (_, _), (22, .v (.int .i64 v27))]) (by kernel_rfl) rfl rfl
            ⟨st_plain rfl (op_bin _ _ _ _ _ rfl rfl (ibind (f := Value.int .i64) (Option.some.inj hv27))),
              st_plain rfl (LOp.drop [_] (op_move _ _ _ _ rfl rfl)),
              trivial⟩ ?_
          exact pt_next _ (Option.some.inj h).symm rfl
        · intro u61 h hl62 hr63
          refine ht_block ?_
          refine ht_seq ?_
          obtain ⟨v9, hv9, h⟩ := bind_some h
          obtain ⟨v10, hv10, h⟩ := bind_some h
          refine ht_seqR hn (El := [_, _, _, _, _, _, (24, .v (.int .i64 s41)), (25, .eref (.slot 20) (v9 * 1)), (26, .v (.int .i64 v10)), (7, .v (.int .i64 s41)), (8, .v (.int .i64 v10))]) (init := [0, 1, 2, 3, 4, 5]) (fin := [0, 1, 2, 3, 4, 9, 10]) (sps := [⟨[4], [], [6], [(.slot 24)]⟩, ⟨[2, 4], [], [7], [(.slot 25)]⟩, ⟨[7, 2], [], [8], [(.slot 26)]⟩, ⟨[6], [], [9], [(.slot 7)]⟩, ⟨[8], [], [10], [(.slot 8)]⟩]) (es' := [(_, _), (_, _), (_, _), (_, _), (_, _), (7, .v (.int .i64 s41)), (8, .v (.int .i64 v10))]) (by kernel_rfl) rfl rfl
            ⟨st_plain rfl (op_move _ _ _ _ rfl rfl),
              st_plain rfl (op_ix _ _ _ _ _ _ _ _ Try.underlying28 sz3 (by decide) rfl rfl rfl (ix_ok hv9).1 (map_lt (ix_ok hv9).2) rfl),
              st_plain rfl (op_load_e _ _ _ _ _ _ Try.underlying3 rfl rfl rfl (map_get hv10)),
              st_plain rfl (op_assign _ _ _ _ rfl rfl),
              st_plain rfl (op_assign _ _ _ _ rfl rfl),
              trivial⟩ ?_
          refine pt_then ?_
          refine ht_seq ?_
          refine ht_seqR hn (El := [_, _, _, _, _, _, _, (27, .v (.int .i64 v10)), (28, .v (.bool ((decide (0 < v10)))))]) (init := [0, 1, 2, 3, 4, 5, 6]) (fin := [0, 1, 2, 3, 4, 5, 6, 8]) (sps := [⟨[6], [], [7], [(.slot 27)]⟩, ⟨[7], [], [8], [(.slot 28)]⟩]) (es' := [(_, _), (_, _), (_, _), (_, _), (_, _), (_, _), (_, _), (28, .v (.bool ((decide (0 < v10)))))]) (by kernel_rfl) rfl rfl
            ⟨st_plain rfl (op_move _ _ _ _ rfl rfl),
              st_plain rfl (op_bin _ _ _ _ _ rfl rfl rfl),
              trivial⟩ ?_
          refine pt_then ?_
          refine ht_cond _ rfl (fun hb64 => ?_) (fun hb64 => ?_)
          · have h := cond_t hb64 h
            refine ht_seq ?_
            obtain ⟨v12, hv12, h⟩ := bind_some h
            obtain ⟨v13, hv13, h⟩ := bind_some h
            obtain ⟨v14, hv14, h⟩ := bind_some h
            obtain ⟨v15, hv15, h⟩ := bind_some h
            refine ht_seqR hn (El := (_ :: _ :: _ :: _ :: _ :: _ :: _ :: _ :: (29, .same (.slot 6)) :: (30, .v (.int .i64 s41)) :: (31, .v (.int .i64 v10)) :: (32, .ptr 5 v12) :: (33, .v (.int .i64 v13)) :: (34, .eref (.slot 6) (v14 * 1)) :: (6, .fl (.own 3) 1 (List.map (Value.int .i64) v15)) :: [])) (init := [0, 1, 2, 3, 4, 5, 6, 7]) (fin := [0, 14, 2, 3, 4, 6]) (sps := [⟨[1], [], [8], [(.slot 29)]⟩, ⟨[5], [], [9], [(.slot 30)]⟩, ⟨[6], [], [10], [(.slot 31)]⟩, ⟨[0, 10], [], [11], [(.slot 32)]⟩, ⟨[11, 0], [], [12], [(.slot 33)]⟩, ⟨[8, 1, 9], [], [13], [(.slot 34)]⟩, ⟨[13, 12], [1], [14], []⟩]) (es' := [(_, _), (6, .fl (.own 3) 1 (List.map (Value.int .i64) v15)), (_, _), (_, _), (_, _), (_, _)]) (by kernel_rfl) rfl rfl
              ⟨st_plain rfl (op_move _ _ _ _ rfl rfl),
                st_plain rfl (op_move _ _ _ _ rfl rfl),
                st_plain rfl (op_move _ _ _ _ rfl rfl),
                st_plain rfl (op_ix_arr _ _ _ _ 16 5 _ Try.underlying64 sz3 rfl rfl (ix_ok hv12).1 (ix_ok hv12).2 (by decide)),
                st_plain rfl (op_load_arr _ _ _ _ _ _ Try.underlying3 rfl rfl rfl (map_get1 hv13)),
                st_plain rfl (op_ix _ _ _ _ _ _ _ _ Try.underlying28 sz3 (by decide) rfl rfl rfl (ix_ok hv14).1 (map_lt (ix_ok hv14).2) rfl),
                st_plain rfl (op_store_e _ _ _ _ _ _ _ _ sz3 rfl rfl rfl (by decide) (map_lt (ix_ok hv14).2) ((map_set (f := Value.int .i64) _ (ix_ok hv14).2).trans (congrArg (List.map _) (Option.some.inj hv15)))),
                trivial⟩ ?_
            refine pt_then ?_
            obtain ⟨v16, hv16, h⟩ := bind_some h
            obtain ⟨v17, hv17, h⟩ := bind_some h
            obtain ⟨v18, hv18, h⟩ := bind_some h
            obtain ⟨v19, hv19, h⟩ := bind_some h
            obtain ⟨v20, hv20, h⟩ := bind_some h
            refine ht_seqR hn (El := [_, _, _, _, _, _, (35, .v (.int .i64 v10)), (36, .ptr 5 v16), (37, .v (.int .i64 v17)), (38, .v (.int .i64 v18)), (39, .ptr 5 v19), (5, .arr 64 (List.map (Value.int .i64) v20))]) (init := [0, 1, 2, 3, 4, 5]) (fin := [11, 1, 2, 3, 4]) (sps := [⟨[5], [], [6], [(.slot 35)]⟩, ⟨[0, 6], [], [7], [(.slot 36)]⟩, ⟨[7, 0], [], [8], [(.slot 37)]⟩, ⟨[8], [], [9], [(.slot 38)]⟩, ⟨[0, 6], [], [10], [(.slot 39)]⟩, ⟨[10, 9], [0], [11], []⟩]) (es' := [(5, .arr 64 (List.map (Value.int .i64) v20)), (_, _), (_, _), (_, _), (_, _)]) (by kernel_rfl) rfl rfl
              ⟨st_plain rfl (op_move _ _ _ _ rfl rfl),
                st_plain rfl (op_ix_arr _ _ _ _ 16 5 _ Try.underlying64 sz3 rfl rfl (ix_ok hv16).1 (ix_ok hv16).2 (by decide)),
                st_plain rfl (op_load_arr _ _ _ _ _ _ Try.underlying3 rfl rfl rfl (map_get1 hv17)),
                st_plain rfl (op_bin _ _ _ _ _ rfl rfl (ibind (f := Value.int .i64) (Option.some.inj hv18))),
                st_plain rfl (op_ix_arr _ _ _ _ 16 5 _ Try.underlying64 sz3 rfl rfl (ix_ok hv19).1 (ix_ok hv19).2 (by decide)),
                st_plain rfl (op_store_arr _ _ _ _ _ _ sz3 rfl rfl rfl rfl (set_lt hv20) (set_eq (f := Value.int .i64) hv20)),
                trivial⟩ ?_
            refine pt_inb ?_
            exact hl62 _ (Option.some.inj h).symm
          · have h := cond_f hb64 h
            refine ht_skip ?_
            refine pt_inb ?_
            refine pt_pick [0, 1, 2, 3, 4] (by kernel_rfl) (es' := [(_, _), (_, _), (_, _), (_, _), (_, _)]) rfl ?_
            exact hl62 _ (Option.some.inj h).symm
      · have h := cond_f hb57 h
        refine ht_exit ?_
        refine pt_x_then ?_
        refine pt_x_then ?_
        refine pt_x_in ?_
        refine pt_pick [1] (by kernel_rfl) (es' := [(_, _)]) rfl ?_
        exact hl52 _ (ho54 _ (Option.some.inj h).symm).symm

set_option maxHeartbeats 1000000 in
theorem ok_sym_lens (r : T_sym_scale) (h : Sh.sym_lens  = some r) : FnOK Try.prog 28 [] (.agg [.v (.int .i64 r.least), .v (.int .i64 r.singles), .v (.int .i64 r.group)]) := by
  unfold Sh.sym_lens at h
  refine fn_ok Try.func28 rfl (Nat.le_of_ble_eq_true rfl) rfl rfl fun g0 hn hio => ?_
  refine ht_seq ?_
  refine ht_seqR hn (El := [(0, .box 52 [.v (.int .i64 0), .v (.int .i64 0), .v (.int .i64 0)])]) (init := []) (fin := [0]) (sps := [⟨[], [], [0], [(.slot 0)]⟩]) (es' := [(0, .box 52 [.v (.int .i64 0), .v (.int .i64 0), .v (.int .i64 0)])]) (by kernel_rfl) rfl rfl
    ⟨st_plain rfl (op_alloc _ _ zr52),
      trivial⟩ ?_
  refine pt_then ?_
  refine ht_seq ?_
  refine ht_seqR hn (El := [_, (1, .agg [.v (.int .i64 3), .v (.int .i64 8), .v (.int .i64 4)]), (0, .box 52 [.v (.int .i64 3), .v (.int .i64 8), .v (.int .i64 4)])]) (init := [0]) (fin := [2]) (sps := [⟨[], [], [1], [(.slot 1)]⟩, ⟨[1], [0], [2], [.cell 0 0, .cell 0 1, .cell 0 2]⟩]) (es' := [(0, .box 52 [.v (.int .i64 3), .v (.int .i64 8), .v (.int .i64 4)])]) (by kernel_rfl) rfl rfl
    ⟨st_plain rfl (op_build _ _ _ _ [1, 1, 1] _ _ Try.underlying52 zr52 (fs52 _ Try.underlying52) (.copy _ (.copy _ (.copy _ Src.nil))) rfl rfl rfl),
      st_plain rfl (op_store _ _ _ _ _ _ _ _ sz52 rfl rfl rfl rfl (Nat.le_of_ble_eq_true rfl) rfl rfl),
      trivial⟩ ?_
  refine pt_then ?_
  refine ht_ret ?_
  obtain rfl := Option.some.inj h
  exact pt_ret hio rfl (.cellA _ _ _ _ Try.underlying52 rfl sz52 .nil) rfl rfl

set_option maxHeartbeats 1000000 in
theorem ok_sym_scale_symbol (s : T_sym_scale) (sym : Int) (r : (Int × Int)) (h : Sh.sym_scale_symbol s sym = some r) : FnOK Try.prog 33 [.agg [.v (.int .i64 s.least), .v (.int .i64 s.singles), .v (.int .i64 s.group)], .v (.int .i64 sym)] (.tup [.v (.int .i64 r.1), .v (.int .i64 r.2)]) := by
  unfold Sh.sym_scale_symbol at h
  refine fn_ok Try.func33 rfl (Nat.le_of_ble_eq_true rfl) rfl rfl fun g0 hn hio => ?_
  refine ht_seq ?_
  refine ht_seqR hn (El := [_, _, (2, .box 52 [.v (.int .i64 s.least), .v (.int .i64 s.singles), .v (.int .i64 s.group)]), (4, .v (.int .i64 0)), (5, .v (.int .i64 0))]) (init := [0, 1]) (fin := [1, 2]) (sps := [⟨[0], [], [2], [(.slot 2)]⟩, ⟨[], [], [3], [(.slot 4)]⟩, ⟨[], [], [4], [(.slot 5)]⟩]) (es' := [(_, _), (2, .box 52 [.v (.int .i64 s.least), .v (.int .i64 s.singles), .v (.int .i64 s.group)])]) (by kernel_rfl) rfl rfl
    ⟨st_plain rfl (op_box _ _ _ _ rfl rfl rfl),
      st_plain rfl (op_assign _ _ _ _ rfl rfl),
      st_plain rfl (op_assign _ _ _ _ rfl rfl),
      trivial⟩ ?_
  refine pt_then ?_
  refine ht_seq ?_
  refine ht_seq ?_
  refine ht_seqR hn (El := [_, _, (7, .v (.int .i64 sym)), (8, .ptr 2 1), (9, .v (.int .i64 s.singles)), (10, .v (.bool ((decide (sym < s.singles)))))]) (init := [0, 1]) (fin := [0, 1, 5]) (sps := [⟨[0], [], [2], [(.slot 7)]⟩, ⟨[1], [], [3], [(.slot 8)]⟩, ⟨[3, 1], [], [4], [(.slot 9)]⟩, ⟨[2, 4], [], [5], [(.slot 10)]⟩]) (es' := [(_, _), (_, _), (10, .v (.bool ((decide (sym < s.singles)))))]) (by kernel_rfl) rfl rfl
    ⟨st_plain rfl (op_move _ _ _ _ rfl rfl),
      st_plain rfl (op_fieldAddr _ _ _ _ 2 0 _ Try.underlying52 rfl sz3 rfl rfl (by decide)),
      st_plain rfl (op_load _ _ _ _ _ _ Try.underlying3 rfl rfl rfl (Nat.le_of_ble_eq_true rfl) rfl rfl rfl),
      st_plain rfl (op_bin _ _ _ _ _ rfl rfl rfl),
      trivial⟩ ?_
  refine pt_then ?_
  refine ht_cond _ rfl (fun hb1 => ?_) (fun hb1 => ?_)
  · have h := cond_t hb1 h
    refine ht_seq ?_
    obtain ⟨v2, hv2, h⟩ := bind_some h
    refine ht_seqR hn (El := [_, _, _, (11, .ptr 2 0), (12, .v (.int .i64 s.least)), (13, .v (.int .i64 sym)), (14, .v (.int .i64 v2)), (4, .v (.int .i64 v2)), (5, .v (.int .i64 0))]) (init := [0, 1, 2]) (fin := [7, 8]) (sps := [⟨[1], [], [3], [(.slot 11)]⟩, ⟨[3, 1], [], [4], [(.slot 12)]⟩, ⟨[0], [], [5], [(.slot 13)]⟩, ⟨[4, 5], [], [6], [(.slot 14)]⟩, ⟨[6], [], [7], [(.slot 4)]⟩, ⟨[], [], [8], [(.slot 5)]⟩]) (es' := [(4, .v (.int .i64 v2)), (5, .v (.int .i64 0))]) (by kernel_rfl) rfl rfl
      ⟨st_plain rfl (op_fieldAddr _ _ _ _ 2 0 _ Try.underlying52 rfl sz3 rfl rfl (by decide)),
        st_plain rfl (op_load _ _ _ _ _ _ Try.underlying3 rfl rfl rfl (Nat.le_of_ble_eq_true rfl) rfl rfl rfl),
        st_plain rfl (op_move _ _ _ _ rfl rfl),
        st_plain rfl (op_bin _ _ _ _ _ rfl rfl (ibind (f := Value.int .i64) (Option.some.inj hv2))),
        st_plain rfl (op_assign _ _ _ _ rfl rfl),
        st_plain rfl (op_assign _ _ _ _ rfl rfl),
        trivial⟩ ?_
    refine pt_then ?_
    refine ht_ret ?_
    refine pt_r_then ?_
    obtain rfl := Option.some.inj h
    exact pt_ret hio rfl (.tmp _ _ (.tmp _ _ .nil)) rfl rfl
  · have h := cond_f hb1 h
    refine ht_skip ?_
    refine pt_then ?_
    refine ht_seq ?_
    obtain ⟨v3, hv3, h⟩ := bind_some h
    refine ht_seqR hn (El := [_, _, _, (15, .ptr 2 0), (16, .v (.int .i64 s.least)), (17, .ptr 2 1), (18, .v (.int .i64 s.singles)), (19, .v (.int .i64 v3)), (4, .v (.int .i64 v3))]) (init := [0, 1, 2]) (fin := [0, 1, 8]) (sps := [⟨[1], [], [3], [(.slot 15)]⟩, ⟨[3, 1], [], [4], [(.slot 16)]⟩, ⟨[1], [], [5], [(.slot 17)]⟩, ⟨[5, 1], [], [6], [(.slot 18)]⟩, ⟨[4, 6], [], [7], [(.slot 19)]⟩, ⟨[7], [], [8], [(.slot 4)]⟩]) (es' := [(_, _), (_, _), (4, .v (.int .i64 v3))]) (by kernel_rfl) rfl rfl
      ⟨st_plain rfl (op_fieldAddr _ _ _ _ 2 0 _ Try.underlying52 rfl sz3 rfl rfl (by decide)),
        st_plain rfl (op_load _ _ _ _ _ _ Try.underlying3 rfl rfl rfl (Nat.le_of_ble_eq_true rfl) rfl rfl rfl),
        st_plain rfl (op_fieldAddr _ _ _ _ 2 0 _ Try.underlying52 rfl sz3 rfl rfl (by decide)),
        st_plain rfl (op_load _ _ _ _ _ _ Try.underlying3 rfl rfl rfl (Nat.le_of_ble_eq_true rfl) rfl rfl rfl),
        st_plain rfl (op_bin _ _ _ _ _ rfl rfl (ibind (f := Value.int .i64) (Option.some.inj hv3))),
        st_plain rfl (op_assign _ _ _ _ rfl rfl),
        trivial⟩ ?_
    refine pt_then ?_
    refine ht_seq ?_
    refine ht_seqR hn (El := [_, _, _, (6, .v (.int .i64 1))]) (init := [0, 1, 2]) (fin := [0, 1, 2, 3]) (sps := [⟨[], [], [3], [(.slot 6)]⟩]) (es' := [(_, _), (_, _), (_, _), (6, .v (.int .i64 1))]) (by kernel_rfl) rfl rfl
      ⟨st_plain rfl (op_assign _ _ _ _ rfl rfl),
        trivial⟩ ?_
    refine pt_then ?_
    refine ht_seq ?_
    refine ht_seq ?_
    obtain ⟨v4, hv4, h⟩ := bind_some h
    refine ht_seqR hn (El := [_, _, _, _, (20, .v (.int .i64 sym)), (21, .ptr 2 1), (22, .v (.int .i64 s.singles)), (23, .v (.int .i64 v4)), (1, .v (.int .i64 v4))]) (init := [0, 1, 2, 3]) (fin := [1, 2, 3, 8]) (sps := [⟨[0], [], [4], [(.slot 20)]⟩, ⟨[1], [], [5], [(.slot 21)]⟩, ⟨[5, 1], [], [6], [(.slot 22)]⟩, ⟨[4, 6], [], [7], [(.slot 23)]⟩, ⟨[7], [0], [8], [(.slot 1)]⟩]) (es' := [(_, _), (_, _), (_, _), (1, .v (.int .i64 v4))]) (by kernel_rfl) rfl rfl
      ⟨st_plain rfl (op_move _ _ _ _ rfl rfl),
        st_plain rfl (op_fieldAddr _ _ _ _ 2 0 _ Try.underlying52 rfl sz3 rfl rfl (by decide)),
        st_plain rfl (op_load _ _ _ _ _ _ Try.underlying3 rfl rfl rfl (Nat.le_of_ble_eq_true rfl) rfl rfl rfl),
        st_plain rfl (op_bin _ _ _ _ _ rfl rfl (ibind (f := Value.int .i64) (Option.some.inj hv4))),
        st_plain rfl (LOp.drop [_] (op_assign _ _ _ _ rfl rfl)),
        trivial⟩ ?_
    refine pt_then ?_
    refine ht_loopS h (fun ((s14, s15, s16) : Int × Int × Int) => [(2, .box 52 [.v (.int .i64 s.least), .v (.int .i64 s.singles), .v (.int .i64 s.group)]), (4, .v (.int .i64 s14)), (6, .v (.int .i64 s15)), (1, .v (.int .i64 s16))]) (fun ((s18, s19, s20) : Int × Int × Int) => [(4, .v (.int .i64 s18)), (6, .v (.int .i64 s19)), (1, .v (.int .i64 s20))]) ?_ ?_
    · rintro ⟨s18, s19, s20⟩ h
      refine pt_then ?_
      refine ht_seq ?_
      obtain ⟨v28, hv28, h⟩ := bind_some h
      obtain ⟨v29, hv29, h⟩ := bind_some h
      refine ht_seqR hn (El := [_, _, _, (40, .v (.int .i64 s18)), (41, .v (.int .i64 s20)), (42, .v (.int .i64 s19)), (43, .v (.int .i64 v28)), (44, .v (.int .i64 v29)), (45, .v (.int .i64 s19)), (4, .v (.int .i64 v29)), (5, .v (.int .i64 s19))]) (init := [0, 1, 2]) (fin := [9, 10]) (sps := [⟨[0], [], [3], [(.slot 40)]⟩, ⟨[2], [], [4], [(.slot 41)]⟩, ⟨[1], [], [5], [(.slot 42)]⟩, ⟨[4, 5], [], [6], [(.slot 43)]⟩, ⟨[3, 6], [], [7], [(.slot 44)]⟩, ⟨[1], [], [8], [(.slot 45)]⟩, ⟨[7], [0], [9], [(.slot 4)]⟩, ⟨[8], [], [10], [(.slot 5)]⟩]) (es' := [(4, .v (.int .i64 v29)), (5, .v (.int .i64 s19))]) (by kernel_rfl) rfl rfl
        ⟨st_plain rfl (op_move _ _ _ _ rfl rfl),
          st_plain rfl (op_move _ _ _ _ rfl rfl),
          st_plain rfl (op_move _ _ _ _ rfl rfl),
          st_plain rfl (op_bin _ _ _ _ _ rfl rfl (shl_ok hv28)),
          st_plain rfl (op_bin _ _ _ _ _ rfl rfl (ibind (f := Value.int .i64) (Option.some.inj hv29))),
          st_plain rfl (op_move _ _ _ _ rfl rfl),
          st_plain rfl (LOp.drop [_] (op_assign _ _ _ _ rfl rfl)),
          st_plain rfl (op_assign _ _ _ _ rfl rfl),
          trivial⟩ ?_
      refine pt_then ?_
      refine ht_ret ?_
      obtain rfl := Option.some.inj h
      exact pt_ret hio rfl (.tmp _ _ (.tmp _ _ .nil)) rfl rfl
    · rintro u21 hl22 hr23 ⟨s14, s15, s16⟩ rr26 h ho24
      refine ht_seq ?_
      refine ht_seq ?_
      refine ht_seqR hn (El := [_, _, _, _, (24, .v (.int .i64 s16)), (25, .ptr 2 2), (26, .v (.int .i64 s.group)), (27, .v (.bool ((decide (s.group ≤ s16)))))]) (init := [0, 1, 2, 3]) (fin := [0, 1, 2, 3, 7]) (sps := [⟨[3], [], [4], [(.slot 24)]⟩, ⟨[0], [], [5], [(.slot 25)]⟩, ⟨[5, 0], [], [6], [(.slot 26)]⟩, ⟨[4, 6], [], [7], [(.slot 27)]⟩]) (es' := [(_, _), (_, _), (_, _), (_, _), (27, .v (.bool ((decide (s.group ≤ s16)))))]) (by kernel_rfl) rfl rfl
        ⟨st_plain rfl (op_move _ _ _ _ rfl rfl),
          st_plain rfl (op_fieldAddr _ _ _ _ 2 0 _ Try.underlying52 rfl sz3 rfl rfl (by decide)),
          st_plain rfl (op_load _ _ _ _ _ _ Try.underlying3 rfl rfl rfl (Nat.le_of_ble_eq_true rfl) rfl rfl rfl),
          st_plain rfl (op_bin _ _ _ _ _ rfl rfl rfl),
          trivial⟩ ?_
      refine pt_then ?_
      refine ht_cond _ rfl (fun hb27 => ?_) (fun hb27 => ?_)
      · have h := cond_t hb27 h
        refine ht_skip ?_
        refine pt_then ?_
        refine ht_seq ?_
        refine ht_block ?_
        refine ht_seq ?_
        obtain ⟨v6, hv6, h⟩ := bind_some h
        obtain ⟨v7, hv7, h⟩ := bind_some h
        refine ht_seqR hn (El := [_, _, _, _, _, (32, .v (.int .i64 s14)), (33, .ptr 2 2), (34, .v (.int .i64 s.group)), (35, .v (.int .i64 s15)), (36, .v (.int .i64 v6)), (37, .v (.int .i64 v7)), (4, .v (.int .i64 v7))]) (init := [0, 1, 2, 3, 4]) (fin := [0, 2, 3, 11]) (sps := [⟨[1], [], [5], [(.slot 32)]⟩, ⟨[0], [], [6], [(.slot 33)]⟩, ⟨[6, 0], [], [7], [(.slot 34)]⟩, ⟨[2], [], [8], [(.slot 35)]⟩, ⟨[7, 8], [], [9], [(.slot 36)]⟩, ⟨[5, 9], [], [10], [(.slot 37)]⟩, ⟨[10], [1], [11], [(.slot 4)]⟩]) (es' := [(_, _), (_, _), (_, _), (4, .v (.int .i64 v7))]) (by kernel_rfl) rfl rfl
          ⟨st_plain rfl (op_move _ _ _ _ rfl rfl),
            st_plain rfl (op_fieldAddr _ _ _ _ 2 0 _ Try.underlying52 rfl sz3 rfl rfl (by decide)),
            st_plain rfl (op_load _ _ _ _ _ _ Try.underlying3 rfl rfl rfl (Nat.le_of_ble_eq_true rfl) rfl rfl rfl),
            st_plain rfl (op_move _ _ _ _ rfl rfl),
            st_plain rfl (op_bin _ _ _ _ _ rfl rfl (shl_ok hv6)),
            st_plain rfl (op_bin _ _ _ _ _ rfl rfl (ibind (f := Value.int .i64) (Option.some.inj hv7))),
            st_plain rfl (LOp.drop [_] (op_assign _ _ _ _ rfl rfl)),
            trivial⟩ ?_
        refine pt_then ?_
        obtain ⟨v8, hv8, h⟩ := bind_some h
        refine ht_seqR hn (El := [_, _, _, _, (38, .v (.int .i64 s15)), (39, .v (.int .i64 v8)), (6, .v (.int .i64 v8))]) (init := [0, 1, 2, 3]) (fin := [0, 2, 3, 6]) (sps := [⟨[1], [], [4], [(.slot 38)]⟩, ⟨[4], [], [5], [(.slot 39)]⟩, ⟨[5], [1], [6], [(.slot 6)]⟩]) (es' := [(_, _), (_, _), (_, _), (6, .v (.int .i64 v8))]) (by kernel_rfl) rfl rfl
          ⟨st_plain rfl (op_move _ _ _ _ rfl rfl),
            st_plain rfl (op_bin _ _ _ _ _ rfl rfl (ibind (f := Value.int .i64) (Option.some.inj hv8))),
            st_plain rfl (LOp.drop [_] (op_assign _ _ _ _ rfl rfl)),
            trivial⟩ ?_
        refine pt_inb ?_
        refine pt_then ?_
        obtain ⟨v9, hv9, h⟩ := bind_some h
        refine ht_seqR hn (El := [_, _, _, _, (28, .v (.int .i64 s16)), (29, .ptr 2 2), (30, .v (.int .i64 s.group)), (31, .v (.int .i64 v9)), (1, .v (.int .i64 v9))]) (init := [0, 1, 2, 3]) (fin := [0, 2, 3, 8]) (sps := [⟨[1], [], [4], [(.slot 28)]⟩, ⟨[0], [], [5], [(.slot 29)]⟩, ⟨[5, 0], [], [6], [(.slot 30)]⟩, ⟨[4, 6], [], [7], [(.slot 31)]⟩, ⟨[7], [1], [8], [(.slot 1)]⟩]) (es' := [(_, _), (_, _), (_, _), (1, .v (.int .i64 v9))]) (by kernel_rfl) rfl rfl
          ⟨st_plain rfl (op_move _ _ _ _ rfl rfl),
            st_plain rfl (op_fieldAddr _ _ _ _ 2 0 _ Try.underlying52 rfl sz3 rfl rfl (by decide)),
            st_plain rfl (op_load _ _ _ _ _ _ Try.underlying3 rfl rfl rfl (Nat.le_of_ble_eq_true rfl) rfl rfl rfl),
            st_plain rfl (op_bin _ _ _ _ _ rfl rfl (ibind (f := Value.int .i64) (Option.some.inj hv9))),
            st_plain rfl (LOp.drop [_] (op_assign _ _ _ _ rfl rfl)),
            trivial⟩ ?_
        exact pt_next _ (Option.some.inj h).symm rfl
      · have h := cond_f hb27 h
        refine ht_exit ?_
        refine pt_x_then ?_
        refine pt_x_then ?_
        refine pt_x_in ?_
        refine pt_pick [1, 2, 3] (by kernel_rfl) (es' := [(_, _), (_, _), (_, _)]) rfl ?_
        exact hl22 _ (ho24 _ (Option.some.inj h).symm).symm

set_option maxHeartbeats 1000000 in
theorem ok_sym_scale_find (s : T_sym_scale) (n : Int) (r : (Int × Int × Int)) (h : Sh.sym_scale_find s n = some r) : FnOK Try.prog 29 [.agg [.v (.int .i64 s.least), .v (.int .i64 s.singles), .v (.int .i64 s.group)], .v (.int .i64 n)] (.tup [.v (.int .i64 r.1), .v (.int .i64 r.2.1), .v (.int .i64 r.2.2)]) := by
  unfold Sh.sym_scale_find at h
  refine fn_ok Try.func29 rfl (Nat.le_of_ble_eq_true rfl) rfl rfl fun g0 hn hio => ?_
  refine ht_seq ?_
  refine ht_seqR hn (El := [_, _, (2, .box 52 [.v (.int .i64 s.least), .v (.int .i64 s.singles), .v (.int .i64 s.group)]), (4, .v (.int .i64 0)), (5, .v (.int .i64 0)), (6, .v (.int .i64 0))]) (init := [0, 1]) (fin := [1, 2, 3]) (sps := [⟨[0], [], [2], [(.slot 2)]⟩, ⟨[], [], [3], [(.slot 4)]⟩, ⟨[], [], [4], [(.slot 5)]⟩, ⟨[], [], [5], [(.slot 6)]⟩]) (es' := [(_, _), (2, .box 52 [.v (.int .i64 s.least), .v (.int .i64 s.singles), .v (.int .i64 s.group)]), (4, .v (.int .i64 0))]) (by kernel_rfl) rfl rfl
    ⟨st_plain rfl (op_box _ _ _ _ rfl rfl rfl),
      st_plain rfl (op_assign _ _ _ _ rfl rfl),
      st_plain rfl (op_assign _ _ _ _ rfl rfl),
      st_plain rfl (op_assign _ _ _ _ rfl rfl),
      trivial⟩ ?_
  refine pt_then ?_
  refine ht_loopS h (fun (s9 : Int) => [(1, .v (.int .i64 n)), (2, .box 52 [.v (.int .i64 s.least), .v (.int .i64 s.singles), .v (.int .i64 s.group)]), (4, .v (.int .i64 s9))]) (fun (() : Unit) => []) ?_ ?_
  · rintro ⟨⟩ h
    cases h
  · rintro u11 hl12 hr13 s9 rr16 h ho14
    refine ht_block ?_
    refine ht_seq ?_
    obtain ⟨v1, hv1, h⟩ := bind_some h
    refine ht_seqR hn (El := [_, _, _, (10, .agg [.v (.int .i64 s.least), .v (.int .i64 s.singles), .v (.int .i64 s.group)]), (11, .v (.int .i64 s9)), (12, .tup [.v (.int .i64 v1.1), .v (.int .i64 v1.2)]), (9, .tup [.v (.int .i64 v1.1), .v (.int .i64 v1.2)]), (13, .v (.int .i64 v1.1)), (14, .v (.int .i64 v1.2)), (7, .v (.int .i64 v1.1)), (8, .v (.int .i64 v1.2))]) (init := [0, 1, 2]) (fin := [0, 1, 2, 9, 10]) (sps := [⟨[1], [], [3], [(.slot 10)]⟩, ⟨[2], [], [4], [(.slot 11)]⟩, ⟨[3, 4], [], [5], [(.slot 12)]⟩, ⟨[], [5], [6], [(.slot 9)]⟩, ⟨[6], [], [7], [(.slot 13)]⟩, ⟨[6], [], [8], [(.slot 14)]⟩, ⟨[7], [], [9], [(.slot 7)]⟩, ⟨[8], [], [10], [(.slot 8)]⟩]) (es' := [(_, _), (_, _), (_, _), (7, .v (.int .i64 v1.1)), (8, .v (.int .i64 v1.2))]) (by kernel_rfl) rfl rfl
      ⟨st_plain rfl (op_loadA _ _ _ _ _ _ _ Try.underlying52 rfl sz52 rfl rfl (Nat.le_of_ble_eq_true rfl) rfl rfl),
        st_plain rfl (op_move _ _ _ _ rfl rfl),
        st_plain rfl (op_call _ _ 33 _ _ rfl Try.call33 rfl (ok_sym_scale_symbol s s9 _ hv1) rfl rfl),
        st_plain rfl (op_move_take _ _ _ _ rfl),
        st_plain rfl (op_extract _ _ _ _ _ rfl rfl (Nat.le_of_ble_eq_true rfl) rfl rfl),
        st_plain rfl (op_extract _ _ _ _ _ rfl rfl (Nat.le_of_ble_eq_true rfl) rfl rfl),
        st_plain rfl (op_assign _ _ _ _ rfl rfl),
        st_plain rfl (op_assign _ _ _ _ rfl rfl),
        trivial⟩ ?_
    refine pt_then ?_
    refine ht_seq ?_
    refine ht_seq ?_
    obtain ⟨v2, hv2, h⟩ := bind_some h
    obtain ⟨v3, hv3, h⟩ := bind_some h
    refine ht_seqR hn (El := [_, _, _, _, _, (15, .v (.int .i64 n)), (16, .v (.int .i64 v1.1)), (17, .v (.int .i64 v2)), (18, .v (.int .i64 v1.2)), (19, .v (.int .i64 v3)), (20, .v (.bool ((decide (v2 < v3)))))]) (init := [0, 1, 2, 3, 4]) (fin := [0, 1, 2, 3, 4, 10]) (sps := [⟨[0], [], [5], [(.slot 15)]⟩, ⟨[3], [], [6], [(.slot 16)]⟩, ⟨[5, 6], [], [7], [(.slot 17)]⟩, ⟨[4], [], [8], [(.slot 18)]⟩, ⟨[8], [], [9], [(.slot 19)]⟩, ⟨[7, 9], [], [10], [(.slot 20)]⟩]) (es' := [(_, _), (_, _), (_, _), (_, _), (_, _), (20, .v (.bool ((decide (v2 < v3)))))]) (by kernel_rfl) rfl rfl
      ⟨st_plain rfl (op_move _ _ _ _ rfl rfl),
        st_plain rfl (op_move _ _ _ _ rfl rfl),
        st_plain rfl (op_bin _ _ _ _ _ rfl rfl (ibind (f := Value.int .i64) (Option.some.inj hv2))),
        st_plain rfl (op_move _ _ _ _ rfl rfl),
        st_plain rfl (op_bin _ _ _ _ _ rfl rfl (shl_ok hv3)),
        st_plain rfl (op_bin _ _ _ _ _ rfl rfl rfl),
        trivial⟩ ?_
    refine pt_then ?_
    refine ht_cond _ rfl (fun hb17 => ?_) (fun hb17 => ?_)
    · have h := cond_t hb17 h
      refine ht_seq ?_
      obtain ⟨v5, hv5, h⟩ := bind_some h
      refine ht_seqR hn (El := [_, _, _, _, _, _, (21, .v (.int .i64 s9)), (22, .v (.int .i64 v1.2)), (23, .v (.int .i64 n)), (24, .v (.int .i64 v1.1)), (25, .v (.int .i64 v5)), (4, .v (.int .i64 s9)), (5, .v (.int .i64 v1.2)), (6, .v (.int .i64 v5))]) (init := [0, 1, 2, 3, 4, 5]) (fin := [11, 12, 13]) (sps := [⟨[2], [], [6], [(.slot 21)]⟩, ⟨[4], [], [7], [(.slot 22)]⟩, ⟨[0], [], [8], [(.slot 23)]⟩, ⟨[3], [], [9], [(.slot 24)]⟩, ⟨[8, 9], [], [10], [(.slot 25)]⟩, ⟨[6], [2], [11], [(.slot 4)]⟩, ⟨[7], [], [12], [(.slot 5)]⟩, ⟨[10], [], [13], [(.slot 6)]⟩]) (es' := [(4, .v (.int .i64 s9)), (5, .v (.int .i64 v1.2)), (6, .v (.int .i64 v5))]) (by kernel_rfl) rfl rfl
        ⟨st_plain rfl (op_move _ _ _ _ rfl rfl),
          st_plain rfl (op_move _ _ _ _ rfl rfl),
          st_plain rfl (op_move _ _ _ _ rfl rfl),
          st_plain rfl (op_move _ _ _ _ rfl rfl),
          st_plain rfl (op_bin _ _ _ _ _ rfl rfl (ibind (f := Value.int .i64) (Option.some.inj hv5))),
          st_plain rfl (LOp.drop [_] (op_assign _ _ _ _ rfl rfl)),
          st_plain rfl (op_assign _ _ _ _ rfl rfl),
          st_plain rfl (op_assign _ _ _ _ rfl rfl),
          trivial⟩ ?_
      refine pt_then ?_
      refine ht_ret ?_
      refine pt_r_then ?_
      refine pt_r_in ?_
      refine pt_r_then ?_
      refine pt_r_in ?_
      have h := hr13 _ (ho14 _ (Option.some.inj h).symm).symm
      obtain rfl := Option.some.inj h
      exact pt_ret hio rfl (.tmp _ _ (.tmp _ _ (.tmp _ _ .nil))) rfl rfl
    · have h := cond_f hb17 h
      refine ht_skip ?_
      refine pt_then ?_
      obtain ⟨v6, hv6, h⟩ := bind_some h
      refine ht_seqR hn (El := [_, _, _, _, _, _, (26, .v (.int .i64 s9)), (27, .v (.int .i64 v6)), (4, .v (.int .i64 v6))]) (init := [0, 1, 2, 3, 4, 5]) (fin := [0, 1, 8]) (sps := [⟨[2], [], [6], [(.slot 26)]⟩, ⟨[6], [], [7], [(.slot 27)]⟩, ⟨[7], [2], [8], [(.slot 4)]⟩]) (es' := [(_, _), (_, _), (4, .v (.int .i64 v6))]) (by kernel_rfl) rfl rfl
        ⟨st_plain rfl (op_move _ _ _ _ rfl rfl),
          st_plain rfl (op_bin _ _ _ _ _ rfl rfl (ibind (f := Value.int .i64) (Option.some.inj hv6))),
          st_plain rfl (LOp.drop [_] (op_assign _ _ _ _ rfl rfl)),
          trivial⟩ ?_
      refine pt_inb ?_
      exact pt_next _ (Option.some.inj h).symm rfl

set_option maxHeartbeats 1000000 in
theorem ok_sym_Len (n : Int) (r : (Int × Int × Int × Int)) (h : Sh.sym_Len n = some r) : FnOK Try.prog 9 [.v (.int .i64 n)] (.tup [.v (.int .i64 r.1), .v (.int .i64 r.2.1), .v (.int .i64 r.2.2.1), .v (.int .i64 r.2.2.2)]) := by
  unfold Sh.sym_Len at h
  refine fn_ok Try.func9 rfl (Nat.le_of_ble_eq_true rfl) rfl rfl fun g0 hn hio => ?_
  refine ht_seq ?_
  refine ht_seqR hn (El := [_, (2, .v (.int .i64 0)), (3, .v (.int .i64 0)), (4, .v (.int .i64 0)), (5, .v (.int .i64 0))]) (init := [0]) (fin := [0]) (sps := [⟨[], [], [1], [(.slot 2)]⟩, ⟨[], [], [2], [(.slot 3)]⟩, ⟨[], [], [3], [(.slot 4)]⟩, ⟨[], [], [4], [(.slot 5)]⟩]) (es' := [(_, _)]) (by kernel_rfl) rfl rfl
    ⟨st_plain rfl (op_assign _ _ _ _ rfl rfl),
      st_plain rfl (op_assign _ _ _ _ rfl rfl),
      st_plain rfl (op_assign _ _ _ _ rfl rfl),
      st_plain rfl (op_assign _ _ _ _ rfl rfl),
      trivial⟩ ?_
  refine pt_then ?_
  refine ht_seq ?_
  refine ht_seq ?_
  refine ht_joinS h (fun (s1 : Bool) => [(0, .v (.int .i64 n)), (11, .v (.bool s1))]) ?_ ?_
  · rintro s1 h
    refine pt_then ?_
    refine ht_cond _ rfl (fun hb5 => ?_) (fun hb5 => ?_)
    · have h := cond_t hb5 h
      refine ht_seq ?_
      refine ht_seqR hn (El := [_, _, (2, .v (.int .i64 0)), (3, .v (.int .i64 0)), (4, .v (.int .i64 0)), (5, .v (.int .i64 1))]) (init := [0, 1]) (fin := [2, 3, 4, 5]) (sps := [⟨[], [], [2], [(.slot 2)]⟩, ⟨[], [], [3], [(.slot 3)]⟩, ⟨[], [], [4], [(.slot 4)]⟩, ⟨[], [], [5], [(.slot 5)]⟩]) (es' := [(2, .v (.int .i64 0)), (3, .v (.int .i64 0)), (4, .v (.int .i64 0)), (5, .v (.int .i64 1))]) (by kernel_rfl) rfl rfl
        ⟨st_plain rfl (op_assign _ _ _ _ rfl rfl),
          st_plain rfl (op_assign _ _ _ _ rfl rfl),
          st_plain rfl (op_assign _ _ _ _ rfl rfl),
          st_plain rfl (op_assign _ _ _ _ rfl rfl),
          trivial⟩ ?_
      refine pt_then ?_
      refine ht_ret ?_
      refine pt_r_then ?_
      obtain rfl := Option.some.inj h
      exact pt_ret hio rfl (.tmp _ _ (.tmp _ _ (.tmp _ _ (.tmp _ _ .nil)))) rfl rfl
    · have h := cond_f hb5 h
      refine ht_skip ?_
      refine pt_then ?_
      refine ht_seq ?_
      refine ht_seq ?_
      refine ht_seqR hn (El := [_, _, (12, .v (.int .i64 n)), (13, .v (.bool (n == 258)))]) (init := [0, 1]) (fin := [0, 3]) (sps := [⟨[0], [], [2], [(.slot 12)]⟩, ⟨[2], [], [3], [(.slot 13)]⟩]) (es' := [(_, _), (13, .v (.bool (n == 258)))]) (by kernel_rfl) rfl rfl
        ⟨st_plain rfl (op_move _ _ _ _ rfl rfl),
          st_plain rfl (op_bin _ _ _ _ _ rfl rfl rfl),
          trivial⟩ ?_
      refine pt_then ?_
      refine ht_cond _ rfl (fun hb6 => ?_) (fun hb6 => ?_)
      · have h := cond_t hb6 h
        refine ht_seq ?_
        refine ht_seqR hn (El := [_, _, (2, .v (.int .i64 285)), (3, .v (.int .i64 0)), (4, .v (.int .i64 0)), (5, .v (.int .i64 0))]) (init := [0, 1]) (fin := [2, 3, 4, 5]) (sps := [⟨[], [], [2], [(.slot 2)]⟩, ⟨[], [], [3], [(.slot 3)]⟩, ⟨[], [], [4], [(.slot 4)]⟩, ⟨[], [], [5], [(.slot 5)]⟩]) (es' := [(2, .v (.int .i64 285)), (3, .v (.int .i64 0)), (4, .v (.int .i64 0)), (5, .v (.int .i64 0))]) (by kernel_rfl) rfl rfl
          ⟨st_plain rfl (op_assign _ _ _ _ rfl rfl),
            st_plain rfl (op_assign _ _ _ _ rfl rfl),
            st_plain rfl (op_assign _ _ _ _ rfl rfl),
            st_plain rfl (op_assign _ _ _ _ rfl rfl),
            trivial⟩ ?_
        refine pt_then ?_
        refine ht_ret ?_
        refine pt_r_then ?_
        obtain rfl := Option.some.inj h
        exact pt_ret hio rfl (.tmp _ _ (.tmp _ _ (.tmp _ _ (.tmp _ _ .nil)))) rfl rfl
      · have h := cond_f hb6 h
        refine ht_skip ?_
        refine pt_then ?_
        refine ht_seq ?_
        obtain ⟨v7, hv7, h⟩ := bind_some h
        obtain ⟨v8, hv8, h⟩ := bind_some h
        refine ht_seqR hn (El := [_, _, (15, .agg [.v (.int .i64 v7.least), .v (.int .i64 v7.singles), .v (.int .i64 v7.group)]), (16, .v (.int .i64 n)), (17, .tup [.v (.int .i64 v8.1), .v (.int .i64 v8.2.1), .v (.int .i64 v8.2.2)]), (14, .tup [.v (.int .i64 v8.1), .v (.int .i64 v8.2.1), .v (.int .i64 v8.2.2)]), (18, .v (.int .i64 v8.1)), (19, .v (.int .i64 v8.2.1)), (20, .v (.int .i64 v8.2.2)), (2, .v (.int .i64 v8.1)), (3, .v (.int .i64 v8.2.1)), (4, .v (.int .i64 v8.2.2))]) (init := [0, 1]) (fin := [9, 10, 11]) (sps := [⟨[], [], [2], [(.slot 15)]⟩, ⟨[0], [], [3], [(.slot 16)]⟩, ⟨[2, 3], [], [4], [(.slot 17)]⟩, ⟨[], [4], [5], [(.slot 14)]⟩, ⟨[5], [], [6], [(.slot 18)]⟩, ⟨[5], [], [7], [(.slot 19)]⟩, ⟨[5], [], [8], [(.slot 20)]⟩, ⟨[6], [], [9], [(.slot 2)]⟩, ⟨[7], [], [10], [(.slot 3)]⟩, ⟨[8], [], [11], [(.slot 4)]⟩]) (es' := [(2, .v (.int .i64 v8.1)), (3, .v (.int .i64 v8.2.1)), (4, .v (.int .i64 v8.2.2))]) (by kernel_rfl) rfl rfl
          ⟨st_plain rfl (op_call _ _ 28 _ _ rfl Try.call28 rfl (ok_sym_lens  _ hv7) rfl rfl),
            st_plain rfl (op_move _ _ _ _ rfl rfl),
            st_plain rfl (op_call _ _ 29 _ _ rfl Try.call29 rfl (ok_sym_scale_find v7 n _ hv8) rfl rfl),
            st_plain rfl (op_move_take _ _ _ _ rfl),
            st_plain rfl (op_extract _ _ _ _ _ rfl rfl (Nat.le_of_ble_eq_true rfl) rfl rfl),
            st_plain rfl (op_extract _ _ _ _ _ rfl rfl (Nat.le_of_ble_eq_true rfl) rfl rfl),
            st_plain rfl (op_extract _ _ _ _ _ rfl rfl (Nat.le_of_ble_eq_true rfl) rfl rfl),
            st_plain rfl (op_assign _ _ _ _ rfl rfl),
            st_plain rfl (op_assign _ _ _ _ rfl rfl),
            st_plain rfl (op_assign _ _ _ _ rfl rfl),
            trivial⟩ ?_
        refine pt_then ?_
        refine ht_seq ?_
        obtain ⟨v9, hv9, h⟩ := bind_some h
        refine ht_seqR hn (El := [_, _, _, (21, .v (.int .i64 v8.1)), (22, .v (.int .i64 v9)), (23, .v (.int .i64 v8.2.1)), (24, .v (.int .i64 v8.2.2)), (2, .v (.int .i64 v9)), (3, .v (.int .i64 v8.2.1)), (4, .v (.int .i64 v8.2.2)), (5, .v (.int .i64 0))]) (init := [0, 1, 2]) (fin := [7, 8, 9, 10]) (sps := [⟨[0], [], [3], [(.slot 21)]⟩, ⟨[3], [], [4], [(.slot 22)]⟩, ⟨[1], [], [5], [(.slot 23)]⟩, ⟨[2], [], [6], [(.slot 24)]⟩, ⟨[4], [0], [7], [(.slot 2)]⟩, ⟨[5], [1], [8], [(.slot 3)]⟩, ⟨[6], [2], [9], [(.slot 4)]⟩, ⟨[], [], [10], [(.slot 5)]⟩]) (es' := [(2, .v (.int .i64 v9)), (3, .v (.int .i64 v8.2.1)), (4, .v (.int .i64 v8.2.2)), (5, .v (.int .i64 0))]) (by kernel_rfl) rfl rfl
          ⟨st_plain rfl (op_move _ _ _ _ rfl rfl),
            st_plain rfl (op_bin _ _ _ _ _ rfl rfl (ibind (f := Value.int .i64) (Option.some.inj hv9))),
            st_plain rfl (op_move _ _ _ _ rfl rfl),
            st_plain rfl (op_move _ _ _ _ rfl rfl),
            st_plain rfl (LOp.drop [_] (op_assign _ _ _ _ rfl rfl)),
            st_plain rfl (LOp.drop [_] (op_assign _ _ _ _ rfl rfl)),
            st_plain rfl (LOp.drop [_] (op_assign _ _ _ _ rfl rfl)),
            st_plain rfl (op_assign _ _ _ _ rfl rfl),
            trivial⟩ ?_
        refine pt_then ?_
        refine ht_ret ?_
        obtain rfl := Option.some.inj h
        exact pt_ret hio rfl (.tmp _ _ (.tmp _ _ (.tmp _ _ (.tmp _ _ .nil)))) rfl rfl
  · intro u2 h hl3 hr4
    refine cond_some h (fun hg1_2 h => ?_) (fun hg1_2 h => ?_)
    · refine ht_seqR hn (El := [_, (6, .v (.int .i64 n)), (7, .v (.bool ((decide (n < 3))))), (8, .v (.bool true)), (9, .v undef), (10, .v undef), (11, .v (.bool true))]) (init := [0]) (fin := [0, 6]) (sps := [⟨[0], [], [1], [(.slot 6)]⟩, ⟨[1], [], [2], [(.slot 7)]⟩, ⟨[2], [], [3], [(.slot 8)]⟩, ⟨[3], [], [4], [(.slot 9)]⟩, ⟨[3], [], [5], [(.slot 10)]⟩, ⟨[3], [], [6], [(.slot 11)]⟩]) (es' := [(_, _), (11, .v (.bool true))]) (by kernel_rfl) rfl rfl
        ⟨st_plain rfl (op_move _ _ _ _ rfl rfl),
          st_plain rfl (op_bin _ _ _ _ _ rfl rfl rfl),
          st_plain rfl (op_move _ _ _ _ (congrArg (fun b => AV.v (Value.bool b)) hg1_2) rfl),
          st_skip 2 8 _ false rfl rfl rfl rfl (List.Mem.head _),
          st_skip 2 8 _ false rfl rfl rfl rfl (List.Mem.head _),
          st_plain rfl (op_pick _ _ true _ rfl rfl),
          trivial⟩ ?_
      exact hl3 _ (Option.some.inj h).symm
    · refine ht_seqR hn (El := [_, (6, .v (.int .i64 n)), (7, .v (.bool ((decide (n < 3))))), (8, .v (.bool false)), (9, .v (.int .i64 n)), (10, .v (.bool ((decide (258 < n))))), (11, .v (.bool ((decide (258 < n)))))]) (init := [0]) (fin := [0, 6]) (sps := [⟨[0], [], [1], [(.slot 6)]⟩, ⟨[1], [], [2], [(.slot 7)]⟩, ⟨[2], [], [3], [(.slot 8)]⟩, ⟨[3, 0], [], [4], [(.slot 9)]⟩, ⟨[3, 4], [], [5], [(.slot 10)]⟩, ⟨[3, 5], [], [6], [(.slot 11)]⟩]) (es' := [(_, _), (11, .v (.bool ((decide (258 < n)))))]) (by kernel_rfl) rfl rfl
        ⟨st_plain rfl (op_move _ _ _ _ rfl rfl),
          st_plain rfl (op_bin _ _ _ _ _ rfl rfl rfl),
          st_plain rfl (op_move _ _ _ _ (congrArg (fun b => AV.v (Value.bool b)) hg1_2) rfl),
          st_run 2 8 false rfl rfl rfl (List.Mem.head _) (op_move _ _ _ _ rfl rfl),
          st_run 2 8 false rfl rfl rfl (List.Mem.head _) (op_bin _ _ _ _ _ rfl rfl rfl),
          st_plain rfl (op_pick _ _ false _ rfl rfl),
          trivial⟩ ?_
      exact hl3 _ (Option.some.inj h).symm

set_option maxHeartbeats 1000000 in
theorem ok_sym_dists (r : T_sym_scale) (h : Sh.sym_dists  = some r) : FnOK Try.prog 32 [] (.agg [.v (.int .i64 r.least), .v (.int .i64 r.singles), .v (.int .i64 r.group)]) := by
  unfold Sh.sym_dists at h
  refine fn_ok Try.func32 rfl (Nat.le_of_ble_eq_true rfl) rfl rfl fun g0 hn hio => ?_
  refine ht_seq ?_
  refine ht_seqR hn (El := [(0, .box 52 [.v (.int .i64 0), .v (.int .i64 0), .v (.int .i64 0)])]) (init := []) (fin := [0]) (sps := [⟨[], [], [0], [(.slot 0)]⟩]) (es' := [(0, .box 52 [.v (.int .i64 0), .v (.int .i64 0), .v (.int .i64 0)])]) (by kernel_rfl) rfl rfl
    ⟨st_plain rfl (op_alloc _ _ zr52),
      trivial⟩ ?_
  refine pt_then ?_
  refine ht_seq ?_
  refine ht_seqR hn (El := [_, (1, .agg [.v (.int .i64 1), .v (.int .i64 4), .v (.int .i64 2)]), (0, .box 52 [.v (.int .i64 1), .v (.int .i64 4), .v (.int .i64 2)])]) (init := [0]) (fin := [2]) (sps := [⟨[], [], [1], [(.slot 1)]⟩, ⟨[1], [0], [2], [.cell 0 0, .cell 0 1, .cell 0 2]⟩]) (es' := [(0, .box 52 [.v (.int .i64 1), .v (.int .i64 4), .v (.int .i64 2)])]) (by kernel_rfl) rfl rfl
    ⟨st_plain rfl (op_build _ _ _ _ [1, 1, 1] _ _ Try.underlying52 zr52 (fs52 _ Try.underlying52) (.copy _ (.copy _ (.copy _ Src.nil))) rfl rfl rfl),
      st_plain rfl (op_store _ _ _ _ _ _ _ _ sz52 rfl rfl rfl rfl (Nat.le_of_ble_eq_true rfl) rfl rfl),
      trivial⟩ ?_
  refine pt_then ?_
  refine ht_ret ?_
  obtain rfl := Option.some.inj h
  exact pt_ret hio rfl (.cellA _ _ _ _ Try.underlying52 rfl sz52 .nil) rfl rfl

set_option maxHeartbeats 1000000 in
theorem ok_sym_Dist (n : Int) (r : (Int × Int × Int × Int)) (h : Sh.sym_Dist n = some r) : FnOK Try.prog 11 [.v (.int .i64 n)] (.tup [.v (.int .i64 r.1), .v (.int .i64 r.2.1), .v (.int .i64 r.2.2.1), .v (.int .i64 r.2.2.2)]) := by
  unfold Sh.sym_Dist at h
  refine fn_ok Try.func11 rfl (Nat.le_of_ble_eq_true rfl) rfl rfl fun g0 hn hio => ?_
  refine ht_seq ?_
  refine ht_seqR hn (El := [_, (2, .v (.int .i64 0)), (3, .v (.int .i64 0)), (4, .v (.int .i64 0)), (5, .v (.int .i64 0))]) (init := [0]) (fin := [0]) (sps := [⟨[], [], [1], [(.slot 2)]⟩, ⟨[], [], [2], [(.slot 3)]⟩, ⟨[], [], [3], [(.slot 4)]⟩, ⟨[], [], [4], [(.slot 5)]⟩]) (es' := [(_, _)]) (by kernel_rfl) rfl rfl
    ⟨st_plain rfl (op_assign _ _ _ _ rfl rfl),
      st_plain rfl (op_assign _ _ _ _ rfl rfl),
      st_plain rfl (op_assign _ _ _ _ rfl rfl),
      st_plain rfl (op_assign _ _ _ _ rfl rfl),
      trivial⟩ ?_
  refine pt_then ?_
  refine ht_seq ?_
  refine ht_seq ?_
  refine ht_joinS h (fun (s1 : Bool) => [(0, .v (.int .i64 n)), (11, .v (.bool s1))]) ?_ ?_
  · rintro s1 h
    refine pt_then ?_
    refine ht_cond _ rfl (fun hb5 => ?_) (fun hb5 => ?_)
    · have h := cond_t hb5 h
      refine ht_seq ?_
      refine ht_seqR hn (El := [_, _, (2, .v (.int .i64 0)), (3, .v (.int .i64 0)), (4, .v (.int .i64 0)), (5, .v (.int .i64 1))]) (init := [0, 1]) (fin := [2, 3, 4, 5]) (sps := [⟨[], [], [2], [(.slot 2)]⟩, ⟨[], [], [3], [(.slot 3)]⟩, ⟨[], [], [4], [(.slot 4)]⟩, ⟨[], [], [5], [(.slot 5)]⟩]) (es' := [(2, .v (.int .i64 0)), (3, .v (.int .i64 0)), (4, .v (.int .i64 0)), (5, .v (.int .i64 1))]) (by kernel_rfl) rfl rfl
        ⟨st_plain rfl (op_assign _ _ _ _ rfl rfl),
          st_plain rfl (op_assign _ _ _ _ rfl rfl),
          st_plain rfl (op_assign _ _ _ _ rfl rfl),
          st_plain rfl (op_assign _ _ _ _ rfl rfl),
          trivial⟩ ?_
      refine pt_then ?_
      refine ht_ret ?_
      refine pt_r_then ?_
      obtain rfl := Option.some.inj h
      exact pt_ret hio rfl (.tmp _ _ (.tmp _ _ (.tmp _ _ (.tmp _ _ .nil)))) rfl rfl
    · have h := cond_f hb5 h
      refine ht_skip ?_
      refine pt_then ?_
      refine ht_seq ?_
      obtain ⟨v6, hv6, h⟩ := bind_some h
      obtain ⟨v7, hv7, h⟩ := bind_some h
      refine ht_seqR hn (El := [_, _, (13, .agg [.v (.int .i64 v6.least), .v (.int .i64 v6.singles), .v (.int .i64 v6.group)]), (14, .v (.int .i64 n)), (15, .tup [.v (.int .i64 v7.1), .v (.int .i64 v7.2.1), .v (.int .i64 v7.2.2)]), (12, .tup [.v (.int .i64 v7.1), .v (.int .i64 v7.2.1), .v (.int .i64 v7.2.2)]), (16, .v (.int .i64 v7.1)), (17, .v (.int .i64 v7.2.1)), (18, .v (.int .i64 v7.2.2)), (2, .v (.int .i64 v7.1)), (3, .v (.int .i64 v7.2.1)), (4, .v (.int .i64 v7.2.2))]) (init := [0, 1]) (fin := [9, 10, 11]) (sps := [⟨[], [], [2], [(.slot 13)]⟩, ⟨[0], [], [3], [(.slot 14)]⟩, ⟨[2, 3], [], [4], [(.slot 15)]⟩, ⟨[], [4], [5], [(.slot 12)]⟩, ⟨[5], [], [6], [(.slot 16)]⟩, ⟨[5], [], [7], [(.slot 17)]⟩, ⟨[5], [], [8], [(.slot 18)]⟩, ⟨[6], [], [9], [(.slot 2)]⟩, ⟨[7], [], [10], [(.slot 3)]⟩, ⟨[8], [], [11], [(.slot 4)]⟩]) (es' := [(2, .v (.int .i64 v7.1)), (3, .v (.int .i64 v7.2.1)), (4, .v (.int .i64 v7.2.2))]) (by kernel_rfl) rfl rfl
        ⟨st_plain rfl (op_call _ _ 32 _ _ rfl Try.call32 rfl (ok_sym_dists  _ hv6) rfl rfl),
          st_plain rfl (op_move _ _ _ _ rfl rfl),
          st_plain rfl (op_call _ _ 29 _ _ rfl Try.call29 rfl (ok_sym_scale_find v6 n _ hv7) rfl rfl),
          st_plain rfl (op_move_take _ _ _ _ rfl),
          st_plain rfl (op_extract _ _ _ _ _ rfl rfl (Nat.le_of_ble_eq_true rfl) rfl rfl),
          st_plain rfl (op_extract _ _ _ _ _ rfl rfl (Nat.le_of_ble_eq_true rfl) rfl rfl),
          st_plain rfl (op_extract _ _ _ _ _ rfl rfl (Nat.le_of_ble_eq_true rfl) rfl rfl),
          st_plain rfl (op_assign _ _ _ _ rfl rfl),
          st_plain rfl (op_assign _ _ _ _ rfl rfl),
          st_plain rfl (op_assign _ _ _ _ rfl rfl),
          trivial⟩ ?_
      refine pt_then ?_
      refine ht_seq ?_
      refine ht_seqR hn (El := [_, _, _, (19, .v (.int .i64 v7.1)), (20, .v (.int .i64 v7.2.1)), (21, .v (.int .i64 v7.2.2)), (2, .v (.int .i64 v7.1)), (3, .v (.int .i64 v7.2.1)), (4, .v (.int .i64 v7.2.2)), (5, .v (.int .i64 0))]) (init := [0, 1, 2]) (fin := [6, 7, 8, 9]) (sps := [⟨[0], [], [3], [(.slot 19)]⟩, ⟨[1], [], [4], [(.slot 20)]⟩, ⟨[2], [], [5], [(.slot 21)]⟩, ⟨[3], [0], [6], [(.slot 2)]⟩, ⟨[4], [1], [7], [(.slot 3)]⟩, ⟨[5], [2], [8], [(.slot 4)]⟩, ⟨[], [], [9], [(.slot 5)]⟩]) (es' := [(2, .v (.int .i64 v7.1)), (3, .v (.int .i64 v7.2.1)), (4, .v (.int .i64 v7.2.2)), (5, .v (.int .i64 0))]) (by kernel_rfl) rfl rfl
        ⟨st_plain rfl (op_move _ _ _ _ rfl rfl),
          st_plain rfl (op_move _ _ _ _ rfl rfl),
          st_plain rfl (op_move _ _ _ _ rfl rfl),
          st_plain rfl (LOp.drop [_] (op_assign _ _ _ _ rfl rfl)),
          st_plain rfl (LOp.drop [_] (op_assign _ _ _ _ rfl rfl)),
          st_plain rfl (LOp.drop [_] (op_assign _ _ _ _ rfl rfl)),
          st_plain rfl (op_assign _ _ _ _ rfl rfl),
          trivial⟩ ?_
      refine pt_then ?_
      refine ht_ret ?_
      obtain rfl := Option.some.inj h
      exact pt_ret hio rfl (.tmp _ _ (.tmp _ _ (.tmp _ _ (.tmp _ _ .nil)))) rfl rfl
  · intro u2 h hl3 hr4
    refine cond_some h (fun hg1_2 h => ?_) (fun hg1_2 h => ?_)
    · refine ht_seqR hn (El := [_, (6, .v (.int .i64 n)), (7, .v (.bool ((decide (n < 1))))), (8, .v (.bool true)), (9, .v undef), (10, .v undef), (11, .v (.bool true))]) (init := [0]) (fin := [0, 6]) (sps := [⟨[0], [], [1], [(.slot 6)]⟩, ⟨[1], [], [2], [(.slot 7)]⟩, ⟨[2], [], [3], [(.slot 8)]⟩, ⟨[3], [], [4], [(.slot 9)]⟩, ⟨[3], [], [5], [(.slot 10)]⟩, ⟨[3], [], [6], [(.slot 11)]⟩]) (es' := [(_, _), (11, .v (.bool true))]) (by kernel_rfl) rfl rfl
        ⟨st_plain rfl (op_move _ _ _ _ rfl rfl),
          st_plain rfl (op_bin _ _ _ _ _ rfl rfl rfl),
          st_plain rfl (op_move _ _ _ _ (congrArg (fun b => AV.v (Value.bool b)) hg1_2) rfl),
          st_skip 2 8 _ false rfl rfl rfl rfl (List.Mem.head _),
          st_skip 2 8 _ false rfl rfl rfl rfl (List.Mem.head _),
          st_plain rfl (op_pick _ _ true _ rfl rfl),
          trivial⟩ ?_
      exact hl3 _ (Option.some.inj h).symm
    · refine ht_seqR hn (El := [_, (6, .v (.int .i64 n)), (7, .v (.bool ((decide (n < 1))))), (8, .v (.bool false)), (9, .v (.int .i64 n)), (10, .v (.bool ((decide (32768 < n))))), (11, .v (.bool ((decide (32768 < n)))))]) (init := [0]) (fin := [0, 6]) (sps := [⟨[0], [], [1], [(.slot 6)]⟩, ⟨[1], [], [2], [(.slot 7)]⟩, ⟨[2], [], [3], [(.slot 8)]⟩, ⟨[3, 0], [], [4], [(.slot 9)]⟩, ⟨[3, 4], [], [5], [(.slot 10)]⟩, ⟨[3, 5], [], [6], [(.slot 11)]⟩]) (es' := [(_, _), (11, .v (.bool ((decide (32768 < n)))))]) (by kernel_rfl) rfl rfl
        ⟨st_plain rfl (op_move _ _ _ _ rfl rfl),
          st_plain rfl (op_bin _ _ _ _ _ rfl rfl rfl),
          st_plain rfl (op_move _ _ _ _ (congrArg (fun b => AV.v (Value.bool b)) hg1_2) rfl),
          st_run 2 8 false rfl rfl rfl (List.Mem.head _) (op_move _ _ _ _ rfl rfl),
          st_run 2 8 false rfl rfl rfl (List.Mem.head _) (op_bin _ _ _ _ _ rfl rfl rfl),
          st_plain rfl (op_pick _ _ false _ rfl rfl),
          trivial⟩ ?_
      exact hl3 _ (Option.some.inj h).symm

set_option maxHeartbeats 1000000 in
theorem ok_wherrylaw05_wakes (r : Bool) (h : Sh.wherrylaw05_wakes  = some r) : FnOK Try.prog 24 [] (.v (.bool r)) := by
  unfold Sh.wherrylaw05_wakes at h
  refine fn_ok Try.func24 rfl (Nat.le_of_ble_eq_true rfl) rfl rfl fun g0 hn hio => ?_
  refine ht_seq ?_
  refine ht_seqR hn (El := [(0, .v (.bool false))]) (init := []) (fin := []) (sps := [⟨[], [], [0], [(.slot 0)]⟩]) (es' := []) (by kernel_rfl) rfl rfl
    ⟨st_plain rfl (op_assign _ _ _ _ rfl rfl),
      trivial⟩ ?_
  refine pt_then ?_
  refine ht_seq ?_
  obtain ⟨v1, hv1, h⟩ := bind_some h
  refine ht_seqR hn (El := [(10, .tup [.v (.int .i64 v1.1), .v (.int .i64 v1.2.1), .v (.int .i64 v1.2.2.1), .v (.int .i64 v1.2.2.2)]), (9, .tup [.v (.int .i64 v1.1), .v (.int .i64 v1.2.1), .v (.int .i64 v1.2.2.1), .v (.int .i64 v1.2.2.2)]), (11, .v (.int .i64 v1.1)), (12, .v (.int .i64 v1.2.1)), (13, .v (.int .i64 v1.2.2.1)), (14, .v (.int .i64 v1.2.2.2)), (1, .v (.int .i64 v1.1)), (2, .v (.int .i64 v1.2.1)), (3, .v (.int .i64 v1.2.2.1)), (4, .v (.int .i64 v1.2.2.2))]) (init := []) (fin := [6, 7, 8, 9]) (sps := [⟨[], [], [0], [(.slot 10)]⟩, ⟨[], [0], [1], [(.slot 9)]⟩, ⟨[1], [], [2], [(.slot 11)]⟩, ⟨[1], [], [3], [(.slot 12)]⟩, ⟨[1], [], [4], [(.slot 13)]⟩, ⟨[1], [], [5], [(.slot 14)]⟩, ⟨[2], [], [6], [(.slot 1)]⟩, ⟨[3], [], [7], [(.slot 2)]⟩, ⟨[4], [], [8], [(.slot 3)]⟩, ⟨[5], [], [9], [(.slot 4)]⟩]) (es' := [(1, .v (.int .i64 v1.1)), (2, .v (.int .i64 v1.2.1)), (3, .v (.int .i64 v1.2.2.1)), (4, .v (.int .i64 v1.2.2.2))]) (by kernel_rfl) rfl rfl
    ⟨st_plain rfl (op_call _ _ 9 _ _ rfl Try.call9 rfl (ok_sym_Len 11 _ hv1) rfl rfl),
      st_plain rfl (op_move_take _ _ _ _ rfl),
      st_plain rfl (op_extract _ _ _ _ _ rfl rfl (Nat.le_of_ble_eq_true rfl) rfl rfl),
      st_plain rfl (op_extract _ _ _ _ _ rfl rfl (Nat.le_of_ble_eq_true rfl) rfl rfl),
      st_plain rfl (op_extract _ _ _ _ _ rfl rfl (Nat.le_of_ble_eq_true rfl) rfl rfl),
      st_plain rfl (op_extract _ _ _ _ _ rfl rfl (Nat.le_of_ble_eq_true rfl) rfl rfl),
      st_plain rfl (op_assign _ _ _ _ rfl rfl),
      st_plain rfl (op_assign _ _ _ _ rfl rfl),
      st_plain rfl (op_assign _ _ _ _ rfl rfl),
      st_plain rfl (op_assign _ _ _ _ rfl rfl),
      trivial⟩ ?_
  refine pt_then ?_
  refine ht_seq ?_
  obtain ⟨v2, hv2, h⟩ := bind_some h
  refine ht_seqR hn (El := [_, _, _, _, (16, .tup [.v (.int .i64 v2.1), .v (.int .i64 v2.2.1), .v (.int .i64 v2.2.2.1), .v (.int .i64 v2.2.2.2)]), (15, .tup [.v (.int .i64 v2.1), .v (.int .i64 v2.2.1), .v (.int .i64 v2.2.2.1), .v (.int .i64 v2.2.2.2)]), (17, .v (.int .i64 v2.1)), (18, .v (.int .i64 v2.2.1)), (19, .v (.int .i64 v2.2.2.1)), (20, .v (.int .i64 v2.2.2.2)), (5, .v (.int .i64 v2.1)), (6, .v (.int .i64 v2.2.1)), (7, .v (.int .i64 v2.2.2.1)), (8, .v (.int .i64 v2.2.2.2))]) (init := [0, 1, 2, 3]) (fin := [0, 1, 2, 3, 10, 11, 12, 13]) (sps := [⟨[], [], [4], [(.slot 16)]⟩, ⟨[], [4], [5], [(.slot 15)]⟩, ⟨[5], [], [6], [(.slot 17)]⟩, ⟨[5], [], [7], [(.slot 18)]⟩, ⟨[5], [], [8], [(.slot 19)]⟩, ⟨[5], [], [9], [(.slot 20)]⟩, ⟨[6], [], [10], [(.slot 5)]⟩, ⟨[7], [], [11], [(.slot 6)]⟩, ⟨[8], [], [12], [(.slot 7)]⟩, ⟨[9], [], [13], [(.slot 8)]⟩]) (es' := [(_, _), (_, _), (_, _), (_, _), (5, .v (.int .i64 v2.1)), (6, .v (.int .i64 v2.2.1)), (7, .v (.int .i64 v2.2.2.1)), (8, .v (.int .i64 v2.2.2.2))]) (by kernel_rfl) rfl rfl
    ⟨st_plain rfl (op_call _ _ 11 _ _ rfl Try.call11 rfl (ok_sym_Dist 5 _ hv2) rfl rfl),
      st_plain rfl (op_move_take _ _ _ _ rfl),
      st_plain rfl (op_extract _ _ _ _ _ rfl rfl (Nat.le_of_ble_eq_true rfl) rfl rfl),
      st_plain rfl (op_extract _ _ _ _ _ rfl rfl (Nat.le_of_ble_eq_true rfl) rfl rfl),
      st_plain rfl (op_extract _ _ _ _ _ rfl rfl (Nat.le_of_ble_eq_true rfl) rfl rfl),
      st_plain rfl (op_extract _ _ _ _ _ rfl rfl (Nat.le_of_ble_eq_true rfl) rfl rfl),
      st_plain rfl (op_assign _ _ _ _ rfl rfl),
      st_plain rfl (op_assign _ _ _ _ rfl rfl),
      st_plain rfl (op_assign _ _ _ _ rfl rfl),
      st_plain rfl (op_assign _ _ _ _ rfl rfl),
      trivial⟩ ?_
  refine pt_then ?_
  refine ht_seq ?_
  refine ht_joinS h (fun (s3 : Bool) => [(0, .v (.bool s3))]) ?_ ?_
  · rintro s3 h
    refine pt_then ?_
    refine ht_ret ?_
    obtain rfl := Option.some.inj h
    exact pt_ret hio rfl (.tmp _ _ .nil) rfl rfl
  · intro u4 h hl5 hr6
    refine cond_some h (fun hg3_2 h => ?_) (fun hg3_2 h => ?_)
    · refine cond_some h (fun hg3_6 h => ?_) (fun hg3_6 h => ?_)
      · refine cond_some h (fun hg3_10 h => ?_) (fun hg3_10 h => ?_)
        · refine cond_some h (fun hg3_14 h => ?_) (fun hg3_14 h => ?_)
          · refine cond_some h (fun hg3_18 h => ?_) (fun hg3_18 h => ?_)
            · refine cond_some h (fun hg3_22 h => ?_) (fun hg3_22 h => ?_)
              · refine cond_some h (fun hg3_26 h => ?_) (fun hg3_26 h => ?_)
                · refine ht_seqR hn (El := (_ :: _ :: _ :: _ :: _ :: _ :: _ :: _ :: (21, .v (.int .i64 v1.2.2.2)) :: (22, .v (.bool (v1.2.2.2 == 0))) :: (23, .v (.bool true)) :: (24, .v (.int .i64 v2.2.2.2)) :: (25, .v (.bool (v2.2.2.2 == 0))) :: (26, .v (.bool (v2.2.2.2 == 0))) :: (27, .v (.bool true)) :: (28, .v (.int .i64 v1.1)) :: (29, .v (.bool (v1.1 == 265))) :: (30, .v (.bool (v1.1 == 265))) :: (31, .v (.bool true)) :: (32, .v (.int .i64 v1.2.1)) :: (33, .v (.bool (v1.2.1 == 1))) :: (34, .v (.bool (v1.2.1 == 1))) :: (35, .v (.bool true)) :: (36, .v (.int .i64 v1.2.2.1)) :: (37, .v (.bool (v1.2.2.1 == 0))) :: (38, .v (.bool (v1.2.2.1 == 0))) :: (39, .v (.bool true)) :: (40, .v (.int .i64 v2.1)) :: (41, .v (.bool (v2.1 == 4))) :: (42, .v (.bool (v2.1 == 4))) :: (43, .v (.bool true)) :: (44, .v (.int .i64 v2.2.1)) :: (45, .v (.bool (v2.2.1 == 1))) :: (46, .v (.bool (v2.2.1 == 1))) :: (47, .v (.bool true)) :: (48, .v (.int .i64 v2.2.2.1)) :: (49, .v (.bool (v2.2.2.1 == 0))) :: (50, .v (.bool (v2.2.2.1 == 0))) :: (0, .v (.bool (v2.2.2.1 == 0))) :: [])) (init := [0, 1, 2, 3, 4, 5, 6, 7]) (fin := [38]) (sps := (⟨[3], [], [8], [(.slot 21)]⟩ :: ⟨[8], [], [9], [(.slot 22)]⟩ :: ⟨[9], [], [10], [(.slot 23)]⟩ :: ⟨[10, 7], [], [11], [(.slot 24)]⟩ :: ⟨[10, 11], [], [12], [(.slot 25)]⟩ :: ⟨[10, 12], [], [13], [(.slot 26)]⟩ :: ⟨[13], [], [14], [(.slot 27)]⟩ :: ⟨[14, 0], [], [15], [(.slot 28)]⟩ :: ⟨[14, 15], [], [16], [(.slot 29)]⟩ :: ⟨[14, 16], [], [17], [(.slot 30)]⟩ :: ⟨[17], [], [18], [(.slot 31)]⟩ :: ⟨[18, 1], [], [19], [(.slot 32)]⟩ :: ⟨[18, 19], [], [20], [(.slot 33)]⟩ :: ⟨[18, 20], [], [21], [(.slot 34)]⟩ :: ⟨[21], [], [22], [(.slot 35)]⟩ :: ⟨[22, 2], [], [23], [(.slot 36)]⟩ :: ⟨[22, 23], [], [24], [(.slot 37)]⟩ :: ⟨[22, 24], [], [25], [(.slot 38)]⟩ :: ⟨[25], [], [26], [(.slot 39)]⟩ :: ⟨[26, 4], [], [27], [(.slot 40)]⟩ :: ⟨[26, 27], [], [28], [(.slot 41)]⟩ :: ⟨[26, 28], [], [29], [(.slot 42)]⟩ :: ⟨[29], [], [30], [(.slot 43)]⟩ :: ⟨[30, 5], [], [31], [(.slot 44)]⟩ :: ⟨[30, 31], [], [32], [(.slot 45)]⟩ :: ⟨[30, 32], [], [33], [(.slot 46)]⟩ :: ⟨[33], [], [34], [(.slot 47)]⟩ :: ⟨[34, 6], [], [35], [(.slot 48)]⟩ :: ⟨[34, 35], [], [36], [(.slot 49)]⟩ :: ⟨[34, 36], [], [37], [(.slot 50)]⟩ :: ⟨[37], [], [38], [(.slot 0)]⟩ :: [])) (es' := [(0, .v (.bool (v2.2.2.1 == 0)))]) (by kernel_rfl) rfl rfl
                    ⟨st_plain rfl (op_move _ _ _ _ rfl rfl),
                      st_plain rfl (op_bin _ _ _ _ _ rfl rfl rfl),
                      st_plain rfl (op_move _ _ _ _ (congrArg (fun b => AV.v (Value.bool b)) hg3_2) rfl),
                      st_run 2 23 true rfl rfl rfl (List.Mem.head _) (op_move _ _ _ _ rfl rfl),
                      st_run 2 23 true rfl rfl rfl (List.Mem.head _) (op_bin _ _ _ _ _ rfl rfl rfl),
                      st_plain rfl (op_pick _ _ true _ rfl rfl),
                      st_plain rfl (op_move _ _ _ _ (congrArg (fun b => AV.v (Value.bool b)) hg3_6) rfl),
                      st_run 6 27 true rfl rfl rfl (List.Mem.head _) (op_move _ _ _ _ rfl rfl),
                      st_run 6 27 true rfl rfl rfl (List.Mem.head _) (op_bin _ _ _ _ _ rfl rfl rfl),
                      st_plain rfl (op_pick _ _ true _ rfl rfl),
                      st_plain rfl (op_move _ _ _ _ (congrArg (fun b => AV.v (Value.bool b)) hg3_10) rfl),
                      st_run 10 31 true rfl rfl rfl (List.Mem.head _) (op_move _ _ _ _ rfl rfl),
                      st_run 10 31 true rfl rfl rfl (List.Mem.head _) (op_bin _ _ _ _ _ rfl rfl rfl),
                      st_plain rfl (op_pick _ _ true _ rfl rfl),
                      st_plain rfl (op_move _ _ _ _ (congrArg (fun b => AV.v (Value.bool b)) hg3_14) rfl),
                      st_run 14 35 true rfl rfl rfl (List.Mem.head _) (op_move _ _ _ _ rfl rfl),
                      st_run 14 35 true rfl rfl rfl (List.Mem.head _) (op_bin _ _ _ _ _ rfl rfl rfl),
                      st_plain rfl (op_pick _ _ true _ rfl rfl),
                      st_plain rfl (op_move _ _ _ _ (congrArg (fun b => AV.v (Value.bool b)) hg3_18) rfl),
                      st_run 18 39 true rfl rfl rfl (List.Mem.head _) (op_move _ _ _ _ rfl rfl),
                      st_run 18 39 true rfl rfl rfl (List.Mem.head _) (op_bin _ _ _ _ _ rfl rfl rfl),
                      st_plain rfl (op_pick _ _ true _ rfl rfl),
                      st_plain rfl (op_move _ _ _ _ (congrArg (fun b => AV.v (Value.bool b)) hg3_22) rfl),
                      st_run 22 43 true rfl rfl rfl (List.Mem.head _) (op_move _ _ _ _ rfl rfl),
                      st_run 22 43 true rfl rfl rfl (List.Mem.head _) (op_bin _ _ _ _ _ rfl rfl rfl),
                      st_plain rfl (op_pick _ _ true _ rfl rfl),
                      st_plain rfl (op_move _ _ _ _ (congrArg (fun b => AV.v (Value.bool b)) hg3_26) rfl),
                      st_run 26 47 true rfl rfl rfl (List.Mem.head _) (op_move _ _ _ _ rfl rfl),
                      st_run 26 47 true rfl rfl rfl (List.Mem.head _) (op_bin _ _ _ _ _ rfl rfl rfl),
                      st_plain rfl (op_pick _ _ true _ rfl rfl),
                      st_plain rfl (op_assign _ _ _ _ rfl rfl),
                      trivial⟩ ?_
                  exact hl5 _ (Option.some.inj h).symm
                · refine ht_seqR hn (El := (_ :: _ :: _ :: _ :: _ :: _ :: _ :: _ :: (21, .v (.int .i64 v1.2.2.2)) :: (22, .v (.bool (v1.2.2.2 == 0))) :: (23, .v (.bool true)) :: (24, .v (.int .i64 v2.2.2.2)) :: (25, .v (.bool (v2.2.2.2 == 0))) :: (26, .v (.bool (v2.2.2.2 == 0))) :: (27, .v (.bool true)) :: (28, .v (.int .i64 v1.1)) :: (29, .v (.bool (v1.1 == 265))) :: (30, .v (.bool (v1.1 == 265))) :: (31, .v (.bool true)) :: (32, .v (.int .i64 v1.2.1)) :: (33, .v (.bool (v1.2.1 == 1))) :: (34, .v (.bool (v1.2.1 == 1))) :: (35, .v (.bool true)) :: (36, .v (.int .i64 v1.2.2.1)) :: (37, .v (.bool (v1.2.2.1 == 0))) :: (38, .v (.bool (v1.2.2.1 == 0))) :: (39, .v (.bool true)) :: (40, .v (.int .i64 v2.1)) :: (41, .v (.bool (v2.1 == 4))) :: (42, .v (.bool (v2.1 == 4))) :: (43, .v (.bool true)) :: (44, .v (.int .i64 v2.2.1)) :: (45, .v (.bool (v2.2.1 == 1))) :: (46, .v (.bool (v2.2.1 == 1))) :: (47, .v (.bool false)) :: (48, .v undef) :: (49, .v undef) :: (50, .v (.bool false)) :: (0, .v (.bool false)) :: [])) (init := [0, 1, 2, 3, 4, 5, 6, 7]) (fin := [38]) (sps := (⟨[3], [], [8], [(.slot 21)]⟩ :: ⟨[8], [], [9], [(.slot 22)]⟩ :: ⟨[9], [], [10], [(.slot 23)]⟩ :: ⟨[10, 7], [], [11], [(.slot 24)]⟩ :: ⟨[10, 11], [], [12], [(.slot 25)]⟩ :: ⟨[10, 12], [], [13], [(.slot 26)]⟩ :: ⟨[13], [], [14], [(.slot 27)]⟩ :: ⟨[14, 0], [], [15], [(.slot 28)]⟩ :: ⟨[14, 15], [], [16], [(.slot 29)]⟩ :: ⟨[14, 16], [], [17], [(.slot 30)]⟩ :: ⟨[17], [], [18], [(.slot 31)]⟩ :: ⟨[18, 1], [], [19], [(.slot 32)]⟩ :: ⟨[18, 19], [], [20], [(.slot 33)]⟩ :: ⟨[18, 20], [], [21], [(.slot 34)]⟩ :: ⟨[21], [], [22], [(.slot 35)]⟩ :: ⟨[22, 2], [], [23], [(.slot 36)]⟩ :: ⟨[22, 23], [], [24], [(.slot 37)]⟩ :: ⟨[22, 24], [], [25], [(.slot 38)]⟩ :: ⟨[25], [], [26], [(.slot 39)]⟩ :: ⟨[26, 4], [], [27], [(.slot 40)]⟩ :: ⟨[26, 27], [], [28], [(.slot 41)]⟩ :: ⟨[26, 28], [], [29], [(.slot 42)]⟩ :: ⟨[29], [], [30], [(.slot 43)]⟩ :: ⟨[30, 5], [], [31], [(.slot 44)]⟩ :: ⟨[30, 31], [], [32], [(.slot 45)]⟩ :: ⟨[30, 32], [], [33], [(.slot 46)]⟩ :: ⟨[33], [], [34], [(.slot 47)]⟩ :: ⟨[34], [], [35], [(.slot 48)]⟩ :: ⟨[34], [], [36], [(.slot 49)]⟩ :: ⟨[34], [], [37], [(.slot 50)]⟩ :: ⟨[37], [], [38], [(.slot 0)]⟩ :: [])) (es' := [(0, .v (.bool false))]) (by kernel_rfl) rfl rfl
                    ⟨st_plain rfl (op_move _ _ _ _ rfl rfl),
                      st_plain rfl (op_bin _ _ _ _ _ rfl rfl rfl),
                      st_plain rfl (op_move _ _ _ _ (congrArg (fun b => AV.v (Value.bool b)) hg3_2) rfl),
                      st_run 2 23 true rfl rfl rfl (List.Mem.head _) (op_move _ _ _ _ rfl rfl),
                      st_run 2 23 true rfl rfl rfl (List.Mem.head _) (op_bin _ _ _ _ _ rfl rfl rfl),
                      st_plain rfl (op_pick _ _ true _ rfl rfl),
                      st_plain rfl (op_move _ _ _ _ (congrArg (fun b => AV.v (Value.bool b)) hg3_6) rfl),
                      st_run 6 27 true rfl rfl rfl (List.Mem.head _) (op_move _ _ _ _ rfl rfl),
                      st_run 6 27 true rfl rfl rfl (List.Mem.head _) (op_bin _ _ _ _ _ rfl rfl rfl),
                      st_plain rfl (op_pick _ _ true _ rfl rfl),
                      st_plain rfl (op_move _ _ _ _ (congrArg (fun b => AV.v (Value.bool b)) hg3_10) rfl),
                      st_run 10 31 true rfl rfl rfl (List.Mem.head _) (op_move _ _ _ _ rfl rfl),
                      st_run 10 31 true rfl rfl rfl (List.Mem.head _) (op_bin _ _ _ _ _ rfl rfl rfl),
                      st_plain rfl (op_pick _ _ true _ rfl rfl),
                      st_plain rfl (op_move _ _ _ _ (congrArg (fun b => AV.v (Value.bool b)) hg3_14) rfl),
                      st_run 14 35 true rfl rfl rfl (List.Mem.head _) (op_move _ _ _ _ rfl rfl),
                      st_run 14 35 true rfl rfl rfl (List.Mem.head _) (op_bin _ _ _ _ _ rfl rfl rfl),
                      st_plain rfl (op_pick _ _ true _ rfl rfl),
                      st_plain rfl (op_move _ _ _ _ (congrArg (fun b => AV.v (Value.bool b)) hg3_18) rfl),
                      st_run 18 39 true rfl rfl rfl (List.Mem.head _) (op_move _ _ _ _ rfl rfl),
                      st_run 18 39 true rfl rfl rfl (List.Mem.head _) (op_bin _ _ _ _ _ rfl rfl rfl),
                      st_plain rfl (op_pick _ _ true _ rfl rfl),
                      st_plain rfl (op_move _ _ _ _ (congrArg (fun b => AV.v (Value.bool b)) hg3_22) rfl),
                      st_run 22 43 true rfl rfl rfl (List.Mem.head _) (op_move _ _ _ _ rfl rfl),
                      st_run 22 43 true rfl rfl rfl (List.Mem.head _) (op_bin _ _ _ _ _ rfl rfl rfl),
                      st_plain rfl (op_pick _ _ true _ rfl rfl),
                      st_plain rfl (op_move _ _ _ _ (congrArg (fun b => AV.v (Value.bool b)) hg3_26) rfl),
                      st_skip 26 47 _ true rfl rfl rfl rfl (List.Mem.head _),
                      st_skip 26 47 _ true rfl rfl rfl rfl (List.Mem.head _),
                      st_plain rfl (op_pick _ _ false _ rfl rfl),
                      st_plain rfl (op_assign _ _ _ _ rfl rfl),
                      trivial⟩ ?_
                  exact hl5 _ (Option.some.inj h).symm
              · refine ht_seqR hn (El := (_ :: _ :: _ :: _ :: _ :: _ :: _ :: _ :: (21, .v (.int .i64 v1.2.2.2)) :: (22, .v (.bool (v1.2.2.2 == 0))) :: (23, .v (.bool true)) :: (24, .v (.int .i64 v2.2.2.2)) :: (25, .v (.bool (v2.2.2.2 == 0))) :: (26, .v (.bool (v2.2.2.2 == 0))) :: (27, .v (.bool true)) :: (28, .v (.int .i64 v1.1)) :: (29, .v (.bool (v1.1 == 265))) :: (30, .v (.bool (v1.1 == 265))) :: (31, .v (.bool true)) :: (32, .v (.int .i64 v1.2.1)) :: (33, .v (.bool (v1.2.1 == 1))) :: (34, .v (.bool (v1.2.1 == 1))) :: (35, .v (.bool true)) :: (36, .v (.int .i64 v1.2.2.1)) :: (37, .v (.bool (v1.2.2.1 == 0))) :: (38, .v (.bool (v1.2.2.1 == 0))) :: (39, .v (.bool true)) :: (40, .v (.int .i64 v2.1)) :: (41, .v (.bool (v2.1 == 4))) :: (42, .v (.bool (v2.1 == 4))) :: (43, .v (.bool false)) :: (44, .v undef) :: (45, .v undef) :: (46, .v (.bool false)) :: (47, .v (.bool false)) :: (48, .v undef) :: (49, .v undef) :: (50, .v (.bool false)) :: (0, .v (.bool false)) :: [])) (init := [0, 1, 2, 3, 4, 5, 6, 7]) (fin := [38]) (sps := (⟨[3], [], [8], [(.slot 21)]⟩ :: ⟨[8], [], [9], [(.slot 22)]⟩ :: ⟨[9], [], [10], [(.slot 23)]⟩ :: ⟨[10, 7], [], [11], [(.slot 24)]⟩ :: ⟨[10, 11], [], [12], [(.slot 25)]⟩ :: ⟨[10, 12], [], [13], [(.slot 26)]⟩ :: ⟨[13], [], [14], [(.slot 27)]⟩ :: ⟨[14, 0], [], [15], [(.slot 28)]⟩ :: ⟨[14, 15], [], [16], [(.slot 29)]⟩ :: ⟨[14, 16], [], [17], [(.slot 30)]⟩ :: ⟨[17], [], [18], [(.slot 31)]⟩ :: ⟨[18, 1], [], [19], [(.slot 32)]⟩ :: ⟨[18, 19], [], [20], [(.slot 33)]⟩ :: ⟨[18, 20], [], [21], [(.slot 34)]⟩ :: ⟨[21], [], [22], [(.slot 35)]⟩ :: ⟨[22, 2], [], [23], [(.slot 36)]⟩ :: ⟨[22, 23], [], [24], [(.slot 37)]⟩ :: ⟨[22, 24], [], [25], [(.slot 38)]⟩ :: ⟨[25], [], [26], [(.slot 39)]⟩ :: ⟨[26, 4], [], [27], [(.slot 40)]⟩ :: ⟨[26, 27], [], [28], [(.slot 41)]⟩ :: ⟨[26, 28], [], [29], [(.slot 42)]⟩ :: ⟨[29], [], [30], [(.slot 43)]⟩ :: ⟨[30], [], [31], [(.slot 44)]⟩ :: ⟨[30], [], [32], [(.slot 45)]⟩ :: ⟨[30], [], [33], [(.slot 46)]⟩ :: ⟨[33], [], [34], [(.slot 47)]⟩ :: ⟨[34], [], [35], [(.slot 48)]⟩ :: ⟨[34], [], [36], [(.slot 49)]⟩ :: ⟨[34], [], [37], [(.slot 50)]⟩ :: ⟨[37], [], [38], [(.slot 0)]⟩ :: [])) (es' := [(0, .v (.bool false))]) (by kernel_rfl) rfl rfl
                  ⟨st_plain rfl (op_move _ _ _ _ rfl rfl),
                    st_plain rfl (op_bin _ _ _ _ _ rfl rfl rfl),
                    st_plain rfl (op_move _ _ _ _ (congrArg (fun b => AV.v (Value.bool b)) hg3_2) rfl),
                    st_run 2 23 true rfl rfl rfl (List.Mem.head _) (op_move _ _ _ _ rfl rfl),
                    st_run 2 23 true rfl rfl rfl (List.Mem.head _) (op_bin _ _ _ _ _ rfl rfl rfl),
                    st_plain rfl (op_pick _ _ true _ rfl rfl),
                    st_plain rfl (op_move _ _ _ _ (congrArg (fun b => AV.v (Value.bool b)) hg3_6) rfl),
                    st_run 6 27 true rfl rfl rfl (List.Mem.head _) (op_move _ _ _ _ rfl rfl),
                    st_run 6 27 true rfl rfl rfl (List.Mem.head _) (op_bin _ _ _ _ _ rfl rfl rfl),
                    st_plain rfl (op_pick _ _ true _ rfl rfl),
                    st_plain rfl (op_move _ _ _ _ (congrArg (fun b => AV.v (Value.bool b)) hg3_10) rfl),
                    st_run 10 31 true rfl rfl rfl (List.Mem.head _) (op_move _ _ _ _ rfl rfl),
                    st_run 10 31 true rfl rfl rfl (List.Mem.head _) (op_bin _ _ _ _ _ rfl rfl rfl),
                    st_plain rfl (op_pick _ _ true _ rfl rfl),
                    st_plain rfl (op_move _ _ _ _ (congrArg (fun b => AV.v (Value.bool b)) hg3_14) rfl),
                    st_run 14 35 true rfl rfl rfl (List.Mem.head _) (op_move _ _ _ _ rfl rfl),
                    st_run 14 35 true rfl rfl rfl (List.Mem.head _) (op_bin _ _ _ _ _ rfl rfl rfl),
                    st_plain rfl (op_pick _ _ true _ rfl rfl),
                    st_plain rfl (op_move _ _ _ _ (congrArg (fun b => AV.v (Value.bool b)) hg3_18) rfl),
                    st_run 18 39 true rfl rfl rfl (List.Mem.head _) (op_move _ _ _ _ rfl rfl),
                    st_run 18 39 true rfl rfl rfl (List.Mem.head _) (op_bin _ _ _ _ _ rfl rfl rfl),
                    st_plain rfl (op_pick _ _ true _ rfl rfl),
                    st_plain rfl (op_move _ _ _ _ (congrArg (fun b => AV.v (Value.bool b)) hg3_22) rfl),
                    st_skip 22 43 _ true rfl rfl rfl rfl (List.Mem.head _),
                    st_skip 22 43 _ true rfl rfl rfl rfl (List.Mem.head _),
                    st_plain rfl (op_pick _ _ false _ rfl rfl),
                    st_plain rfl (op_move _ _ _ _ rfl rfl),
                    st_skip 26 47 _ true rfl rfl rfl rfl (List.Mem.head _),
                    st_skip 26 47 _ true rfl rfl rfl rfl (List.Mem.head _),
                    st_plain rfl (op_pick _ _ false _ rfl rfl),
                    st_plain rfl (op_assign _ _ _ _ rfl rfl),
                    trivial⟩ ?_
                exact hl5 _ (Option.some.inj h).symm
            · refine ht_seqR hn (El := (_ :: _ :: _ :: _ :: _ :: _ :: _ :: _ :: (21, .v (.int .i64 v1.2.2.2)) :: (22, .v (.bool (v1.2.2.2 == 0))) :: (23, .v (.bool true)) :: (24, .v (.int .i64 v2.2.2.2)) :: (25, .v (.bool (v2.2.2.2 == 0))) :: (26, .v (.bool (v2.2.2.2 == 0))) :: (27, .v (.bool true)) :: (28, .v (.int .i64 v1.1)) :: (29, .v (.bool (v1.1 == 265))) :: (30, .v (.bool (v1.1 == 265))) :: (31, .v (.bool true)) :: (32, .v (.int .i64 v1.2.1)) :: (33, .v (.bool (v1.2.1 == 1))) :: (34, .v (.bool (v1.2.1 == 1))) :: (35, .v (.bool true)) :: (36, .v (.int .i64 v1.2.2.1)) :: (37, .v (.bool (v1.2.2.1 == 0))) :: (38, .v (.bool (v1.2.2.1 == 0))) :: (39, .v (.bool false)) :: (40, .v undef) :: (41, .v undef) :: (42, .v (.bool false)) :: (43, .v (.bool false)) :: (44, .v undef) :: (45, .v undef) :: (46, .v (.bool false)) :: (47, .v (.bool false)) :: (48, .v undef) :: (49, .v undef) :: (50, .v (.bool false)) :: (0, .v (.bool false)) :: [])) (init := [0, 1, 2, 3, 4, 5, 6, 7]) (fin := [38]) (sps := (⟨[3], [], [8], [(.slot 21)]⟩ :: ⟨[8], [], [9], [(.slot 22)]⟩ :: ⟨[9], [], [10], [(.slot 23)]⟩ :: ⟨[10, 7], [], [11], [(.slot 24)]⟩ :: ⟨[10, 11], [], [12], [(.slot 25)]⟩ :: ⟨[10, 12], [], [13], [(.slot 26)]⟩ :: ⟨[13], [], [14], [(.slot 27)]⟩ :: ⟨[14, 0], [], [15], [(.slot 28)]⟩ :: ⟨[14, 15], [], [16], [(.slot 29)]⟩ :: ⟨[14, 16], [], [17], [(.slot 30)]⟩ :: ⟨[17], [], [18], [(.slot 31)]⟩ :: ⟨[18, 1], [], [19], [(.slot 32)]⟩ :: ⟨[18, 19], [], [20], [(.slot 33)]⟩ :: ⟨[18, 20], [], [21], [(.slot 34)]⟩ :: ⟨[21], [], [22], [(.slot 35)]⟩ :: ⟨[22, 2], [], [23], [(.slot 36)]⟩ :: ⟨[22, 23], [], [24], [(.slot 37)]⟩ :: ⟨[22, 24], [], [25], [(.slot 38)]⟩ :: ⟨[25], [], [26], [(.slot 39)]⟩ :: ⟨[26], [], [27], [(.slot 40)]⟩ :: ⟨[26], [], [28], [(.slot 41)]⟩ :: ⟨[26], [], [29], [(.slot 42)]⟩ :: ⟨[29], [], [30], [(.slot 43)]⟩ :: ⟨[30], [], [31], [(.slot 44)]⟩ :: ⟨[30], [], [32], [(.slot 45)]⟩ :: ⟨[30], [], [33], [(.slot 46)]⟩ :: ⟨[33], [], [34], [(.slot 47)]⟩ :: ⟨[34], [], [35], [(.slot 48)]⟩ :: ⟨[34], [], [36], [(.slot 49)]⟩ :: ⟨[34], [], [37], [(.slot 50)]⟩ :: ⟨[37], [], [38], [(.slot 0)]⟩ :: [])) (es' := [(0, .v (.bool false))]) (by kernel_rfl) rfl rfl
                ⟨st_plain rfl (op_move _ _ _ _ rfl rfl),
                  st_plain rfl (op_bin _ _ _ _ _ rfl rfl rfl),
                  st_plain rfl (op_move _ _ _ _ (congrArg (fun b => AV.v (Value.bool b)) hg3_2) rfl),
                  st_run 2 23 true rfl rfl rfl (List.Mem.head _) (op_move _ _ _ _ rfl rfl),
                  st_run 2 23 true rfl rfl rfl (List.Mem.head _) (op_bin _ _ _ _ _ rfl rfl rfl),
                  st_plain rfl (op_pick _ _ true _ rfl rfl),
                  st_plain rfl (op_move _ _ _ _ (congrArg (fun b => AV.v (Value.bool b)) hg3_6) rfl),
                  st_run 6 27 true rfl rfl rfl (List.Mem.head _) (op_move _ _ _ _ rfl rfl),
                  st_run 6 27 true rfl rfl rfl (List.Mem.head _) (op_bin _ _ _ _ _ rfl rfl rfl),
                  st_plain rfl (op_pick _ _ true _ rfl rfl),
                  st_plain rfl (op_move _ _ _ _ (congrArg (fun b => AV.v (Value.bool b)) hg3_10) rfl),
                  st_run 10 31 true rfl rfl rfl (List.Mem.head _) (op_move _ _ _ _ rfl rfl),
                  st_run 10 31 true rfl rfl rfl (List.Mem.head _) (op_bin _ _ _ _ _ rfl rfl rfl),
                  st_plain rfl (op_pick _ _ true _ rfl rfl),
                  st_plain rfl (op_move _ _ _ _ (congrArg (fun b => AV.v (Value.bool b)) hg3_14) rfl),
                  st_run 14 35 true rfl rfl rfl (List.Mem.head _) (op_move _ _ _ _ rfl rfl),
                  st_run 14 35 true rfl rfl rfl (List.Mem.head _) (op_bin _ _ _ _ _ rfl rfl rfl),
                  st_plain rfl (op_pick _ _ true _ rfl rfl),
                  st_plain rfl (op_move _ _ _ _ (congrArg (fun b => AV.v (Value.bool b)) hg3_18) rfl),
                  st_skip 18 39 _ true rfl rfl rfl rfl (List.Mem.head _),
                  st_skip 18 39 _ true rfl rfl rfl rfl (List.Mem.head _),
                  st_plain rfl (op_pick _ _ false _ rfl rfl),
                  st_plain rfl (op_move _ _ _ _ rfl rfl),
                  st_skip 22 43 _ true rfl rfl rfl rfl (List.Mem.head _),
                  st_skip 22 43 _ true rfl rfl rfl rfl (List.Mem.head _),
                  st_plain rfl (op_pick _ _ false _ rfl rfl),
                  st_plain rfl (op_move _ _ _ _ rfl rfl),
                  st_skip 26 47 _ true rfl rfl rfl rfl (List.Mem.head _),
                  st_skip 26 47 _ true rfl rfl rfl rfl (List.Mem.head _),
                  st_plain rfl (op_pick _ _ false _ rfl rfl),
                  st_plain rfl (op_assign _ _ _ _ rfl rfl),
                  trivial⟩ ?_
              exact hl5 _ (Option.some.inj h).symm
          · refine ht_seqR hn (El := (_ :: _ :: _ :: _ :: _ :: _ :: _ :: _ :: (21, .v (.int .i64 v1.2.2.2)) :: (22, .v (.bool (v1.2.2.2 == 0))) :: (23, .v (.bool true)) :: (24, .v (.int .i64 v2.2.2.2)) :: (25, .v (.bool (v2.2.2.2 == 0))) :: (26, .v (.bool (v2.2.2.2 == 0))) :: (27, .v (.bool true)) :: (28, .v (.int .i64 v1.1)) :: (29, .v (.bool (v1.1 == 265))) :: (30, .v (.bool (v1.1 == 265))) :: (31, .v (.bool true)) :: (32, .v (.int .i64 v1.2.1)) :: (33, .v (.bool (v1.2.1 == 1))) :: (34, .v (.bool (v1.2.1 == 1))) :: (35, .v (.bool false)) :: (36, .v undef) :: (37, .v undef) :: (38, .v (.bool false)) :: (39, .v (.bool false)) :: (40, .v undef) :: (41, .v undef) :: (42, .v (.bool false)) :: (43, .v (.bool false)) :: (44, .v undef) :: (45, .v undef) :: (46, .v (.bool false)) :: (47, .v (.bool false)) :: (48, .v undef) :: (49, .v undef) :: (50, .v (.bool false)) :: (0, .v (.bool false)) :: [])) (init := [0, 1, 2, 3, 4, 5, 6, 7]) (fin := [38]) (sps := (⟨[3], [], [8], [(.slot 21)]⟩ :: ⟨[8], [], [9], [(.slot 22)]⟩ :: ⟨[9], [], [10], [(.slot 23)]⟩ :: ⟨[10, 7], [], [11], [(.slot 24)]⟩ :: ⟨[10, 11], [], [12], [(.slot 25)]⟩ :: ⟨[10, 12], [], [13], [(.slot 26)]⟩ :: ⟨[13], [], [14], [(.slot 27)]⟩ :: ⟨[14, 0], [], [15], [(.slot 28)]⟩ :: ⟨[14, 15], [], [16], [(.slot 29)]⟩ :: ⟨[14, 16], [], [17], [(.slot 30)]⟩ :: ⟨[17], [], [18], [(.slot 31)]⟩ :: ⟨[18, 1], [], [19], [(.slot 32)]⟩ :: ⟨[18, 19], [], [20], [(.slot 33)]⟩ :: ⟨[18, 20], [], [21], [(.slot 34)]⟩ :: ⟨[21], [], [22], [(.slot 35)]⟩ :: ⟨[22], [], [23], [(.slot 36)]⟩ :: ⟨[22], [], [24], [(.slot 37)]⟩ :: ⟨[22], [], [25], [(.slot 38)]⟩ :: ⟨[25], [], [26], [(.slot 39)]⟩ :: ⟨[26], [], [27], [(.slot 40)]⟩ :: ⟨[26], [], [28], [(.slot 41)]⟩ :: ⟨[26], [], [29], [(.slot 42)]⟩ :: ⟨[29], [], [30], [(.slot 43)]⟩ :: ⟨[30], [], [31], [(.slot 44)]⟩ :: ⟨[30], [], [32], [(.slot 45)]⟩ :: ⟨[30], [], [33], [(.slot 46)]⟩ :: ⟨[33], [], [34], [(.slot 47)]⟩ :: ⟨[34], [], [35], [(.slot 48)]⟩ :: ⟨[34], [], [36], [(.slot 49)]⟩ :: ⟨[34], [], [37], [(.slot 50)]⟩ :: ⟨[37], [], [38], [(.slot 0)]⟩ :: [])) (es' := [(0, .v (.bool false))]) (by kernel_rfl) rfl rfl
              ⟨st_plain rfl (op_move _ _ _ _ rfl rfl),
                st_plain rfl (op_bin _ _ _ _ _ rfl rfl rfl),
                st_plain rfl (op_move _ _ _ _ (congrArg (fun b => AV.v (Value.bool b)) hg3_2) rfl),
                st_run 2 23 true rfl rfl rfl (List.Mem.head _) (op_move _ _ _ _ rfl rfl),
                st_run 2 23 true rfl rfl rfl (List.Mem.head _) (op_bin _ _ _ _ _ rfl rfl rfl),
                st_plain rfl (op_pick _ _ true _ rfl rfl),
                st_plain rfl (op_move _ _ _ _ (congrArg (fun b => AV.v (Value.bool b)) hg3_6) rfl),
                st_run 6 27 true rfl rfl rfl (List.Mem.head _) (op_move _ _ _ _ rfl rfl),
                st_run 6 27 true rfl rfl rfl (List.Mem.head _) (op_bin _ _ _ _ _ rfl rfl rfl),
                st_plain rfl (op_pick _ _ true _ rfl rfl),
                st_plain rfl (op_move _ _ _ _ (congrArg (fun b => AV.v (Value.bool b)) hg3_10) rfl),
                st_run 10 31 true rfl rfl rfl (List.Mem.head _) (op_move _ _ _ _ rfl rfl),
                st_run 10 31 true rfl rfl rfl (List.Mem.head _) (op_bin _ _ _ _ _ rfl rfl rfl),
                st_plain rfl (op_pick _ _ true _ rfl rfl),
                st_plain rfl (op_move _ _ _ _ (congrArg (fun b => AV.v (Value.bool b)) hg3_14) rfl),
                st_skip 14 35 _ true rfl rfl rfl rfl (List.Mem.head _),
                st_skip 14 35 _ true rfl rfl rfl rfl (List.Mem.head _),
                st_plain rfl (op_pick _ _ false _ rfl rfl),
                st_plain rfl (op_move _ _ _ _ rfl rfl),
                st_skip 18 39 _ true rfl rfl rfl rfl (List.Mem.head _),
                st_skip 18 39 _ true rfl rfl rfl rfl (List.Mem.head _),
                st_plain rfl (op_pick _ _ false _ rfl rfl),
                st_plain rfl (op_move _ _ _ _ rfl rfl),
                st_skip 22 43 _ true rfl rfl rfl rfl (List.Mem.head _),
                st_skip 22 43 _ true rfl rfl rfl rfl (List.Mem.head _),
                st_plain rfl (op_pick _ _ false _ rfl rfl),
                st_plain rfl (op_move _ _ _ _ rfl rfl),
                st_skip 26 47 _ true rfl rfl rfl rfl (List.Mem.head _),
                st_skip 26 47 _ true rfl rfl rfl rfl (List.Mem.head _),
                st_plain rfl (op_pick _ _ false _ rfl rfl),
                st_plain rfl (op_assign _ _ _ _ rfl rfl),
                trivial⟩ ?_
            exact hl5 _ (Option.some.inj h).symm
        · refine ht_seqR hn (El := (_ :: _ :: _ :: _ :: _ :: _ :: _ :: _ :: (21, .v (.int .i64 v1.2.2.2)) :: (22, .v (.bool (v1.2.2.2 == 0))) :: (23, .v (.bool true)) :: (24, .v (.int .i64 v2.2.2.2)) :: (25, .v (.bool (v2.2.2.2 == 0))) :: (26, .v (.bool (v2.2.2.2 == 0))) :: (27, .v (.bool true)) :: (28, .v (.int .i64 v1.1)) :: (29, .v (.bool (v1.1 == 265))) :: (30, .v (.bool (v1.1 == 265))) :: (31, .v (.bool false)) :: (32, .v undef) :: (33, .v undef) :: (34, .v (.bool false)) :: (35, .v (.bool false)) :: (36, .v undef) :: (37, .v undef) :: (38, .v (.bool false)) :: (39, .v (.bool false)) :: (40, .v undef) :: (41, .v undef) :: (42, .v (.bool false)) :: (43, .v (.bool false)) :: (44, .v undef) :: (45, .v undef) :: (46, .v (.bool false)) :: (47, .v (.bool false)) :: (48, .v undef) :: (49, .v undef) :: (50, .v (.bool false)) :: (0, .v (.bool false)) :: [])) (init := [0, 1, 2, 3, 4, 5, 6, 7]) (fin := [38]) (sps := (⟨[3], [], [8], [(.slot 21)]⟩ :: ⟨[8], [], [9], [(.slot 22)]⟩ :: ⟨[9], [], [10], [(.slot 23)]⟩ :: ⟨[10, 7], [], [11], [(.slot 24)]⟩ :: ⟨[10, 11], [], [12], [(.slot 25)]⟩ :: ⟨[10, 12], [], [13], [(.slot 26)]⟩ :: ⟨[13], [], [14], [(.slot 27)]⟩ :: ⟨[14, 0], [], [15], [(.slot 28)]⟩ :: ⟨[14, 15], [], [16], [(.slot 29)]⟩ :: ⟨[14, 16], [], [17], [(.slot 30)]⟩ :: ⟨[17], [], [18], [(.slot 31)]⟩ :: ⟨[18], [], [19], [(.slot 32)]⟩ :: ⟨[18], [], [20], [(.slot 33)]⟩ :: ⟨[18], [], [21], [(.slot 34)]⟩ :: ⟨[21], [], [22], [(.slot 35)]⟩ :: ⟨[22], [], [23], [(.slot 36)]⟩ :: ⟨[22], [], [24], [(.slot 37)]⟩ :: ⟨[22], [], [25], [(.slot 38)]⟩ :: ⟨[25], [], [26], [(.slot 39)]⟩ :: ⟨[26], [], [27], [(.slot 40)]⟩ :: ⟨[26], [], [28], [(.slot 41)]⟩ :: ⟨[26], [], [29], [(.slot 42)]⟩ :: ⟨[29], [], [30], [(.slot 43)]⟩ :: ⟨[30], [], [31], [(.slot 44)]⟩ :: ⟨[30], [], [32], [(.slot 45)]⟩ :: ⟨[30], [], [33], [(.slot 46)]⟩ :: ⟨[33], [], [34], [(.slot 47)]⟩ :: ⟨[34], [], [35], [(.slot 48)]⟩ :: ⟨[34], [], [36], [(.slot 49)]⟩ :: ⟨[34], [], [37], [(.slot 50)]⟩ :: ⟨[37], [], [38], [(.slot 0)]⟩ :: [])) (es' := [(0, .v (.bool false))]) (by kernel_rfl) rfl rfl
            ⟨st_plain rfl (op_move _ _ _ _ rfl rfl),
              st_plain rfl (op_bin _ _ _ _ _ rfl rfl rfl),
              st_plain rfl (op_move _ _ _ _ (congrArg (fun b => AV.v (Value.bool b)) hg3_2) rfl),
              st_run 2 23 true rfl rfl rfl (List.Mem.head _) (op_move _ _ _ _ rfl rfl),
              st_run 2 23 true rfl rfl rfl (List.Mem.head _) (op_bin _ _ _ _ _ rfl rfl rfl),
              st_plain rfl (op_pick _ _ true _ rfl rfl),
              st_plain rfl (op_move _ _ _ _ (congrArg (fun b => AV.v (Value.bool b)) hg3_6) rfl),
              st_run 6 27 true rfl rfl rfl (List.Mem.head _) (op_move _ _ _ _ rfl rfl),
              st_run 6 27 true rfl rfl rfl (List.Mem.head _) (op_bin _ _ _ _ _ rfl rfl rfl),
              st_plain rfl (op_pick _ _ true _ rfl rfl),
              st_plain rfl (op_move _ _ _ _ (congrArg (fun b => AV.v (Value.bool b)) hg3_10) rfl),
              st_skip 10 31 _ true rfl rfl rfl rfl (List.Mem.head _),
              st_skip 10 31 _ true rfl rfl rfl rfl (List.Mem.head _),
              st_plain rfl (op_pick _ _ false _ rfl rfl),
              st_plain rfl (op_move _ _ _ _ rfl rfl),
              st_skip 14 35 _ true rfl rfl rfl rfl (List.Mem.head _),
              st_skip 14 35 _ true rfl rfl rfl rfl (List.Mem.head _),
              st_plain rfl (op_pick _ _ false _ rfl rfl),
              st_plain rfl (op_move _ _ _ _ rfl rfl),
              st_skip 18 39 _ true rfl rfl rfl rfl (List.Mem.head _),
              st_skip 18 39 _ true rfl rfl rfl rfl (List.Mem.head _),
              st_plain rfl (op_pick _ _ false _ rfl rfl),
              st_plain rfl (op_move _ _ _ _ rfl rfl),
              st_skip 22 43 _ true rfl rfl rfl rfl (List.Mem.head _),
              st_skip 22 43 _ true rfl rfl rfl rfl (List.Mem.head _),
              st_plain rfl (op_pick _ _ false _ rfl rfl),
              st_plain rfl (op_move _ _ _ _ rfl rfl),
              st_skip 26 47 _ true rfl rfl rfl rfl (List.Mem.head _),
              st_skip 26 47 _ true rfl rfl rfl rfl (List.Mem.head _),
              st_plain rfl (op_pick _ _ false _ rfl rfl),
              st_plain rfl (op_assign _ _ _ _ rfl rfl),
              trivial⟩ ?_
          exact hl5 _ (Option.some.inj h).symm
      · refine ht_seqR hn (El := (_ :: _ :: _ :: _ :: _ :: _ :: _ :: _ :: (21, .v (.int .i64 v1.2.2.2)) :: (22, .v (.bool (v1.2.2.2 == 0))) :: (23, .v (.bool true)) :: (24, .v (.int .i64 v2.2.2.2)) :: (25, .v (.bool (v2.2.2.2 == 0))) :: (26, .v (.bool (v2.2.2.2 == 0))) :: (27, .v (.bool false)) :: (28, .v undef) :: (29, .v undef) :: (30, .v (.bool false)) :: (31, .v (.bool false)) :: (32, .v undef) :: (33, .v undef) :: (34, .v (.bool false)) :: (35, .v (.bool false)) :: (36, .v undef) :: (37, .v undef) :: (38, .v (.bool false)) :: (39, .v (.bool false)) :: (40, .v undef) :: (41, .v undef) :: (42, .v (.bool false)) :: (43, .v (.bool false)) :: (44, .v undef) :: (45, .v undef) :: (46, .v (.bool false)) :: (47, .v (.bool false)) :: (48, .v undef) :: (49, .v undef) :: (50, .v (.bool false)) :: (0, .v (.bool false)) :: [])) (init := [0, 1, 2, 3, 4, 5, 6, 7]) (fin := [38]) (sps := (⟨[3], [], [8], [(.slot 21)]⟩ :: ⟨[8], [], [9], [(.slot 22)]⟩ :: ⟨[9], [], [10], [(.slot 23)]⟩ :: ⟨[10, 7], [], [11], [(.slot 24)]⟩ :: ⟨[10, 11], [], [12], [(.slot 25)]⟩ :: ⟨[10, 12], [], [13], [(.slot 26)]⟩ :: ⟨[13], [], [14], [(.slot 27)]⟩ :: ⟨[14], [], [15], [(.slot 28)]⟩ :: ⟨[14], [], [16], [(.slot 29)]⟩ :: ⟨[14], [], [17], [(.slot 30)]⟩ :: ⟨[17], [], [18], [(.slot 31)]⟩ :: ⟨[18], [], [19], [(.slot 32)]⟩ :: ⟨[18], [], [20], [(.slot 33)]⟩ :: ⟨[18], [], [21], [(.slot 34)]⟩ :: ⟨[21], [], [22], [(.slot 35)]⟩ :: ⟨[22], [], [23], [(.slot 36)]⟩ :: ⟨[22], [], [24], [(.slot 37)]⟩ :: ⟨[22], [], [25], [(.slot 38)]⟩ :: ⟨[25], [], [26], [(.slot 39)]⟩ :: ⟨[26], [], [27], [(.slot 40)]⟩ :: ⟨[26], [], [28], [(.slot 41)]⟩ :: ⟨[26], [], [29], [(.slot 42)]⟩ :: ⟨[29], [], [30], [(.slot 43)]⟩ :: ⟨[30], [], [31], [(.slot 44)]⟩ :: ⟨[30], [], [32], [(.slot 45)]⟩ :: ⟨[30], [], [33], [(.slot 46)]⟩ :: ⟨[33], [], [34], [(.slot 47)]⟩ :: ⟨[34], [], [35], [(.slot 48)]⟩ :: ⟨[34], [], [36], [(.slot 49)]⟩ :: ⟨[34], [], [37], [(.slot 50)]⟩ :: ⟨[37], [], [38], [(.slot 0)]⟩ :: [])) (es' := [(0, .v (.bool false))]) (by kernel_rfl) rfl rfl
          ⟨st_plain rfl (op_move _ _ _ _ rfl rfl),
            st_plain rfl (op_bin _ _ _ _ _ rfl rfl rfl),
            st_plain rfl (op_move _ _ _ _ (congrArg (fun b => AV.v (Value.bool b)) hg3_2) rfl),
            st_run 2 23 true rfl rfl rfl (List.Mem.head _) (op_move _ _ _ _ rfl rfl),
            st_run 2 23 true rfl rfl rfl (List.Mem.head _) (op_bin _ _ _ _ _ rfl rfl rfl),
            st_plain rfl (op_pick _ _ true _ rfl rfl),
            st_plain rfl (op_move _ _ _ _ (congrArg (fun b => AV.v (Value.bool b)) hg3_6) rfl),
            st_skip 6 27 _ true rfl rfl rfl rfl (List.Mem.head _),
            st_skip 6 27 _ true rfl rfl rfl rfl (List.Mem.head _),
            st_plain rfl (op_pick _ _ false _ rfl rfl),
            st_plain rfl (op_move _ _ _ _ rfl rfl),
            st_skip 10 31 _ true rfl rfl rfl rfl (List.Mem.head _),
            st_skip 10 31 _ true rfl rfl rfl rfl (List.Mem.head _),
            st_plain rfl (op_pick _ _ false _ rfl rfl),
            st_plain rfl (op_move _ _ _ _ rfl rfl),
            st_skip 14 35 _ true rfl rfl rfl rfl (List.Mem.head _),
            st_skip 14 35 _ true rfl rfl rfl rfl (List.Mem.head _),
            st_plain rfl (op_pick _ _ false _ rfl rfl),
            st_plain rfl (op_move _ _ _ _ rfl rfl),
            st_skip 18 39 _ true rfl rfl rfl rfl (List.Mem.head _),
            st_skip 18 39 _ true rfl rfl rfl rfl (List.Mem.head _),
            st_plain rfl (op_pick _ _ false _ rfl rfl),
            st_plain rfl (op_move _ _ _ _ rfl rfl),
            st_skip 22 43 _ true rfl rfl rfl rfl (List.Mem.head _),
            st_skip 22 43 _ true rfl rfl rfl rfl (List.Mem.head _),
            st_plain rfl (op_pick _ _ false _ rfl rfl),
            st_plain rfl (op_move _ _ _ _ rfl rfl),
            st_skip 26 47 _ true rfl rfl rfl rfl (List.Mem.head _),
            st_skip 26 47 _ true rfl rfl rfl rfl (List.Mem.head _),
            st_plain rfl (op_pick _ _ false _ rfl rfl),
            st_plain rfl (op_assign _ _ _ _ rfl rfl),
            trivial⟩ ?_
        exact hl5 _ (Option.some.inj h).symm
    · refine ht_seqR hn (El := (_ :: _ :: _ :: _ :: _ :: _ :: _ :: _ :: (21, .v (.int .i64 v1.2.2.2)) :: (22, .v (.bool (v1.2.2.2 == 0))) :: (23, .v (.bool false)) :: (24, .v undef) :: (25, .v undef) :: (26, .v (.bool false)) :: (27, .v (.bool false)) :: (28, .v undef) :: (29, .v undef) :: (30, .v (.bool false)) :: (31, .v (.bool false)) :: (32, .v undef) :: (33, .v undef) :: (34, .v (.bool false)) :: (35, .v (.bool false)) :: (36, .v undef) :: (37, .v undef) :: (38, .v (.bool false)) :: (39, .v (.bool false)) :: (40, .v undef) :: (41, .v undef) :: (42, .v (.bool false)) :: (43, .v (.bool false)) :: (44, .v undef) :: (45, .v undef) :: (46, .v (.bool false)) :: (47, .v (.bool false)) :: (48, .v undef) :: (49, .v undef) :: (50, .v (.bool false)) :: (0, .v (.bool false)) :: [])) (init := [0, 1, 2, 3, 4, 5, 6, 7]) (fin := [38]) (sps := (⟨[3], [], [8], [(.slot 21)]⟩ :: ⟨[8], [], [9], [(.slot 22)]⟩ :: ⟨[9], [], [10], [(.slot 23)]⟩ :: ⟨[10], [], [11], [(.slot 24)]⟩ :: ⟨[10], [], [12], [(.slot 25)]⟩ :: ⟨[10], [], [13], [(.slot 26)]⟩ :: ⟨[13], [], [14], [(.slot 27)]⟩ :: ⟨[14], [], [15], [(.slot 28)]⟩ :: ⟨[14], [], [16], [(.slot 29)]⟩ :: ⟨[14], [], [17], [(.slot 30)]⟩ :: ⟨[17], [], [18], [(.slot 31)]⟩ :: ⟨[18], [], [19], [(.slot 32)]⟩ :: ⟨[18], [], [20], [(.slot 33)]⟩ :: ⟨[18], [], [21], [(.slot 34)]⟩ :: ⟨[21], [], [22], [(.slot 35)]⟩ :: ⟨[22], [], [23], [(.slot 36)]⟩ :: ⟨[22], [], [24], [(.slot 37)]⟩ :: ⟨[22], [], [25], [(.slot 38)]⟩ :: ⟨[25], [], [26], [(.slot 39)]⟩ :: ⟨[26], [], [27], [(.slot 40)]⟩ :: ⟨[26], [], [28], [(.slot 41)]⟩ :: ⟨[26], [], [29], [(.slot 42)]⟩ :: ⟨[29], [], [30], [(.slot 43)]⟩ :: ⟨[30], [], [31], [(.slot 44)]⟩ :: ⟨[30], [], [32], [(.slot 45)]⟩ :: ⟨[30], [], [33], [(.slot 46)]⟩ :: ⟨[33], [], [34], [(.slot 47)]⟩ :: ⟨[34], [], [35], [(.slot 48)]⟩ :: ⟨[34], [], [36], [(.slot 49)]⟩ :: ⟨[34], [], [37], [(.slot 50)]⟩ :: ⟨[37], [], [38], [(.slot 0)]⟩ :: [])) (es' := [(0, .v (.bool false))]) (by kernel_rfl) rfl rfl
        ⟨st_plain rfl (op_move _ _ _ _ rfl rfl),
          st_plain rfl (op_bin _ _ _ _ _ rfl rfl rfl),
          st_plain rfl (op_move _ _ _ _ (congrArg (fun b => AV.v (Value.bool b)) hg3_2) rfl),
          st_skip 2 23 _ true rfl rfl rfl rfl (List.Mem.head _),
          st_skip 2 23 _ true rfl rfl rfl rfl (List.Mem.head _),
          st_plain rfl (op_pick _ _ false _ rfl rfl),
          st_plain rfl (op_move _ _ _ _ rfl rfl),
          st_skip 6 27 _ true rfl rfl rfl rfl (List.Mem.head _),
          st_skip 6 27 _ true rfl rfl rfl rfl (List.Mem.head _),
          st_plain rfl (op_pick _ _ false _ rfl rfl),
          st_plain rfl (op_move _ _ _ _ rfl rfl),
          st_skip 10 31 _ true rfl rfl rfl rfl (List.Mem.head _),
          st_skip 10 31 _ true rfl rfl rfl rfl (List.Mem.head _),
          st_plain rfl (op_pick _ _ false _ rfl rfl),
          st_plain rfl (op_move _ _ _ _ rfl rfl),
          st_skip 14 35 _ true rfl rfl rfl rfl (List.Mem.head _),
          st_skip 14 35 _ true rfl rfl rfl rfl (List.Mem.head _),
          st_plain rfl (op_pick _ _ false _ rfl rfl),
          st_plain rfl (op_move _ _ _ _ rfl rfl),
          st_skip 18 39 _ true rfl rfl rfl rfl (List.Mem.head _),
          st_skip 18 39 _ true rfl rfl rfl rfl (List.Mem.head _),
          st_plain rfl (op_pick _ _ false _ rfl rfl),
          st_plain rfl (op_move _ _ _ _ rfl rfl),
          st_skip 22 43 _ true rfl rfl rfl rfl (List.Mem.head _),
          st_skip 22 43 _ true rfl rfl rfl rfl (List.Mem.head _),
          st_plain rfl (op_pick _ _ false _ rfl rfl),
          st_plain rfl (op_move _ _ _ _ rfl rfl),
          st_skip 26 47 _ true rfl rfl rfl rfl (List.Mem.head _),
          st_skip 26 47 _ true rfl rfl rfl rfl (List.Mem.head _),
          st_plain rfl (op_pick _ _ false _ rfl rfl),
          st_plain rfl (op_assign _ _ _ _ rfl rfl),
          trivial⟩ ?_
      exact hl5 _ (Option.some.inj h).symm

set_option maxHeartbeats 1000000 in
theorem ok_wherrylaw05_SymFixed (i : Int) (r : Bool) (h : Sh.wherrylaw05_SymFixed i = some r) : FnOK Try.prog 6 [.v (.int .i64 i)] (.v (.bool r)) := by
  unfold Sh.wherrylaw05_SymFixed at h
  refine fn_ok Try.func6 rfl (Nat.le_of_ble_eq_true rfl) rfl rfl fun g0 hn hio => ?_
  refine ht_seq ?_
  refine ht_seqR hn (El := [_, (2, .v (.bool false))]) (init := [0]) (fin := [0]) (sps := [⟨[], [], [1], [(.slot 2)]⟩]) (es' := [(_, _)]) (by kernel_rfl) rfl rfl
    ⟨st_plain rfl (op_assign _ _ _ _ rfl rfl),
      trivial⟩ ?_
  refine pt_then ?_
  refine ht_seq ?_
  obtain ⟨v1, hv1, h⟩ := bind_some h
  refine ht_seqR hn (El := [_, (10, .tup [.fl (.own 3) 1 (List.map (Value.int .i64) v1.1), .fl (.own 3) 1 (List.map (Value.int .i64) v1.2)]), (9, .tup [.fl (.own 3) 1 (List.map (Value.int .i64) v1.1), .fl (.own 3) 1 (List.map (Value.int .i64) v1.2)]), (11, .fl (.own 3) 1 (List.map (Value.int .i64) v1.1)), (9, .tup [.any, .fl (.own 3) 1 (List.map (Value.int .i64) v1.2)]), (12, .fl (.own 3) 1 (List.map (Value.int .i64) v1.2)), (9, .tup [.any, .any]), (3, .fl (.own 3) 1 (List.map (Value.int .i64) v1.1)), (4, .fl (.own 3) 1 (List.map (Value.int .i64) v1.2))]) (init := [0]) (fin := [0, 7, 8]) (sps := [⟨[], [], [1], [(.slot 10)]⟩, ⟨[], [1], [2], [(.slot 9)]⟩, ⟨[], [2], [4, 3], [(.slot 11)]⟩, ⟨[], [4], [6, 5], [(.slot 12)]⟩, ⟨[], [3], [7], [(.slot 3)]⟩, ⟨[], [5], [8], [(.slot 4)]⟩]) (es' := [(_, _), (3, .fl (.own 3) 1 (List.map (Value.int .i64) v1.1)), (4, .fl (.own 3) 1 (List.map (Value.int .i64) v1.2))]) (by kernel_rfl) rfl rfl
    ⟨st_plain rfl (op_call _ _ 17 _ _ rfl Try.call17 rfl (ok_sym_Fixed  _ hv1) rfl rfl),
      st_plain rfl (op_move_take _ _ _ _ rfl),
      st_plain rfl (op_extract_take _ _ _ _ _ rfl (Nat.le_of_ble_eq_true rfl) rfl rfl (by decide) rfl),
      st_plain rfl (op_extract_take _ _ _ _ _ rfl (Nat.le_of_ble_eq_true rfl) rfl rfl (by decide) rfl),
      st_plain rfl (op_assign_take _ _ _ _ rfl),
      st_plain rfl (op_assign_take _ _ _ _ rfl),
      trivial⟩ ?_
  refine pt_then ?_
  refine ht_seq ?_
  refine ht_seq ?_
  refine ht_joinS h (fun (s4 : Bool) => [(0, .v (.int .i64 i)), (3, .fl (.own 3) 1 (List.map (Value.int .i64) v1.1)), (30, .v (.bool s4))]) ?_ ?_
  · rintro s4 h
    refine pt_then ?_
    refine ht_cond _ rfl (fun hb8 => ?_) (fun hb8 => ?_)
    · have h := cond_t hb8 h
      refine ht_seq ?_
      refine ht_seqR hn (El := [_, _, _, (2, .v (.bool false))]) (init := [0, 1, 2]) (fin := [3]) (sps := [⟨[], [], [3], [(.slot 2)]⟩]) (es' := [(2, .v (.bool false))]) (by kernel_rfl) rfl rfl
        ⟨st_plain rfl (op_assign _ _ _ _ rfl rfl),
          trivial⟩ ?_
      refine pt_then ?_
      refine ht_ret ?_
      refine pt_r_then ?_
      obtain rfl := Option.some.inj h
      exact pt_ret hio rfl (.tmp _ _ .nil) rfl rfl
    · have h := cond_f hb8 h
      refine ht_skip ?_
      refine pt_then ?_
      refine ht_seq ?_
      obtain ⟨v9, hv9, h⟩ := bind_some h
      refine ht_seqR hn (El := [_, _, _, (32, .same (.slot 3)), (33, .tup [.fl (.own 3) 1 (List.map (Value.int .i64) v9.1), .v (.int .i64 v9.2)]), (31, .tup [.fl (.own 3) 1 (List.map (Value.int .i64) v9.1), .v (.int .i64 v9.2)]), (34, .fl (.own 3) 1 (List.map (Value.int .i64) v9.1)), (31, .tup [.any, .v (.int .i64 v9.2)]), (35, .v (.int .i64 v9.2)), (5, .fl (.own 3) 1 (List.map (Value.int .i64) v9.1)), (6, .v (.int .i64 v9.2))]) (init := [0, 1, 2]) (fin := [0, 1, 9, 10]) (sps := [⟨[1], [], [3], [(.slot 32)]⟩, ⟨[3, 1], [], [4], [(.slot 33)]⟩, ⟨[], [4], [5], [(.slot 31)]⟩, ⟨[], [5], [7, 6], [(.slot 34)]⟩, ⟨[7], [], [8], [(.slot 35)]⟩, ⟨[], [6], [9], [(.slot 5)]⟩, ⟨[8], [], [10], [(.slot 6)]⟩]) (es' := [(_, _), (_, _), (5, .fl (.own 3) 1 (List.map (Value.int .i64) v9.1)), (6, .v (.int .i64 v9.2))]) (by kernel_rfl) rfl rfl
        ⟨st_plain rfl (op_move _ _ _ _ rfl rfl),
          st_plain rfl (op_call _ _ 26 _ _ rfl Try.call26 rfl (ok_canon_Codes v1.1 _ hv9) rfl rfl),
          st_plain rfl (op_move_take _ _ _ _ rfl),
          st_plain rfl (op_extract_take _ _ _ _ _ rfl (Nat.le_of_ble_eq_true rfl) rfl rfl (by decide) rfl),
          st_plain rfl (op_extract _ _ _ _ _ rfl rfl (Nat.le_of_ble_eq_true rfl) rfl rfl),
          st_plain rfl (op_assign_take _ _ _ _ rfl),
          st_plain rfl (op_assign _ _ _ _ rfl rfl),
          trivial⟩ ?_
      refine pt_then ?_
      refine ht_seq ?_
      refine ht_seq ?_
      refine ht_joinS h (fun (s10 : Bool) => [(0, .v (.int .i64 i)), (3, .fl (.own 3) 1 (List.map (Value.int .i64) v1.1)), (5, .fl (.own 3) 1 (List.map (Value.int .i64) v9.1)), (42, .v (.bool s10))]) ?_ ?_
      · rintro s10 h
        refine pt_then ?_
        refine ht_cond _ rfl (fun hb14 => ?_) (fun hb14 => ?_)
        · have h := cond_t hb14 h
          refine ht_seq ?_
          refine ht_seqR hn (El := [_, _, _, _, (2, .v (.bool false))]) (init := [0, 1, 2, 3]) (fin := [4]) (sps := [⟨[], [], [4], [(.slot 2)]⟩]) (es' := [(2, .v (.bool false))]) (by kernel_rfl) rfl rfl
            ⟨st_plain rfl (op_assign _ _ _ _ rfl rfl),
              trivial⟩ ?_
          refine pt_then ?_
          refine ht_ret ?_
          refine pt_r_then ?_
          obtain rfl := Option.some.inj h
          exact pt_ret hio rfl (.tmp _ _ .nil) rfl rfl
        · have h := cond_f hb14 h
          refine ht_skip ?_
          refine pt_then ?_
          refine ht_seq ?_
          obtain ⟨v15, hv15, h⟩ := bind_some h
          obtain ⟨v16, hv16, h⟩ := bind_some h
          obtain ⟨v17, hv17, h⟩ := bind_some h
          refine ht_seqR hn (El := [_, _, _, _, (43, .v (.int .i64 i)), (44, .v (.int .u64 v15)), (45, .v (.int .u64 v16)), (46, .v (.int .i64 v17)), (0, .v (.int .i64 v17))]) (init := [0, 1, 2, 3]) (fin := [1, 2, 8]) (sps := [⟨[0], [], [4], [(.slot 43)]⟩, ⟨[4], [], [5], [(.slot 44)]⟩, ⟨[5], [], [6], [(.slot 45)]⟩, ⟨[6], [], [7], [(.slot 46)]⟩, ⟨[7], [0], [8], [(.slot 0)]⟩]) (es' := [(_, _), (_, _), (0, .v (.int .i64 v17))]) (by kernel_rfl) rfl rfl
            ⟨st_plain rfl (op_move _ _ _ _ rfl rfl),
              st_plain rfl ((Option.some.inj hv15) ▸ op_conv _ _ _ Try.underlying3 Try.underlying38 rfl),
              st_plain rfl (op_bin _ _ _ _ _ rfl rfl (rem_ok hv16)),
              st_plain rfl ((Option.some.inj hv17) ▸ op_conv _ _ _ Try.underlying38 Try.underlying3 rfl),
              st_plain rfl (LOp.drop [_] (op_assign _ _ _ _ rfl rfl)),
              trivial⟩ ?_
          refine pt_then ?_
          refine ht_seq ?_
          obtain ⟨v18, hv18, h⟩ := bind_some h
          refine ht_seqR hn (El := [_, _, _, (47, .v (.int .i64 v17)), (48, .v (.int .i64 v18)), (7, .v (.int .i64 v18)), (8, .v (.int .i64 8))]) (init := [0, 1, 2]) (fin := [0, 1, 2, 5, 6]) (sps := [⟨[2], [], [3], [(.slot 47)]⟩, ⟨[3], [], [4], [(.slot 48)]⟩, ⟨[4], [], [5], [(.slot 7)]⟩, ⟨[], [], [6], [(.slot 8)]⟩]) (es' := [(_, _), (_, _), (_, _), (7, .v (.int .i64 v18)), (8, .v (.int .i64 8))]) (by kernel_rfl) rfl rfl
            ⟨st_plain rfl (op_move _ _ _ _ rfl rfl),
              st_plain rfl (op_bin _ _ _ _ _ rfl rfl (ibind (f := Value.int .i64) (Option.some.inj hv18))),
              st_plain rfl (op_assign _ _ _ _ rfl rfl),
              st_plain rfl (op_assign _ _ _ _ rfl rfl),
              trivial⟩ ?_
          refine pt_then ?_
          refine ht_seq ?_
          refine ht_joinS h (fun ((s27, s28) : Int × Int) => [(3, .fl (.own 3) 1 (List.map (Value.int .i64) v1.1)), (5, .fl (.own 3) 1 (List.map (Value.int .i64) v9.1)), (0, .v (.int .i64 v17)), (8, .v (.int .i64 s27)), (7, .v (.int .i64 s28))]) ?_ ?_
          · rintro ⟨s27, s28⟩ h
            refine pt_then ?_
            refine ht_seq ?_
            refine ht_joinS h (fun (s40 : Bool) => [(2, .v (.bool s40))]) ?_ ?_
            · rintro s40 h
              refine pt_then ?_
              refine ht_ret ?_
              obtain rfl := Option.some.inj h
              exact pt_ret hio rfl (.tmp _ _ .nil) rfl rfl
            · intro u41 h hl42 hr43
              obtain ⟨v35, hv35, h⟩ := bind_some h
              obtain ⟨v36, hv36, h⟩ := bind_some h
              refine cond_some h (fun hg15_6 h => ?_) (fun hg15_6 h => ?_)
              · obtain ⟨v37, hv37, h⟩ := bind_some h
                obtain ⟨v38, hv38, h⟩ := bind_some h
                refine cond_some h (fun hg15_14 h => ?_) (fun hg15_14 h => ?_)
                · obtain ⟨v39, hv39, h⟩ := bind_some h
                  refine ht_seqR hn (El := (_ :: _ :: _ :: _ :: _ :: (66, .fl (.own 3) 1 (List.map (Value.int .i64) v9.1)) :: (67, .v (.int .i64 v17)) :: (68, .eref (.slot 66) (v35 * 1)) :: (69, .v (.int .i64 v36)) :: (70, .v (.int .i64 s28)) :: (71, .v (.bool (v36 == s28))) :: (72, .v (.bool true)) :: (73, .fl (.own 3) 1 (List.map (Value.int .i64) v1.1)) :: (74, .v (.int .i64 v17)) :: (75, .eref (.slot 73) (v37 * 1)) :: (76, .v (.int .i64 v38)) :: (77, .v (.int .i64 s27)) :: (78, .v (.bool (v38 == s27))) :: (79, .v (.bool (v38 == s27))) :: (80, .v (.bool true)) :: (81, .v (.bool v39)) :: (82, .v (.bool v39)) :: (2, .v (.bool v39)) :: [])) (init := [0, 1, 2, 3, 4]) (fin := [22]) (sps := (⟨[], [1], [5], [(.slot 66)]⟩ :: ⟨[2], [], [6], [(.slot 67)]⟩ :: ⟨[5, 6], [], [7], [(.slot 68)]⟩ :: ⟨[7, 5], [], [8], [(.slot 69)]⟩ :: ⟨[4], [], [9], [(.slot 70)]⟩ :: ⟨[8, 9], [], [10], [(.slot 71)]⟩ :: ⟨[10], [], [11], [(.slot 72)]⟩ :: ⟨[11], [0], [12], [(.slot 73)]⟩ :: ⟨[11, 2], [], [13], [(.slot 74)]⟩ :: ⟨[11, 12, 13], [], [14], [(.slot 75)]⟩ :: ⟨[11, 14, 12], [], [15], [(.slot 76)]⟩ :: ⟨[11, 3], [], [16], [(.slot 77)]⟩ :: ⟨[11, 15, 16], [], [17], [(.slot 78)]⟩ :: ⟨[11, 17], [], [18], [(.slot 79)]⟩ :: ⟨[18], [], [19], [(.slot 80)]⟩ :: ⟨[19], [], [20], [(.slot 81)]⟩ :: ⟨[19, 20], [], [21], [(.slot 82)]⟩ :: ⟨[21], [], [22], [(.slot 2)]⟩ :: [])) (es' := [(2, .v (.bool v39))]) (by kernel_rfl) rfl rfl
                    ⟨st_plain rfl (op_move_take _ _ _ _ rfl),
                      st_plain rfl (op_move _ _ _ _ rfl rfl),
                      st_plain rfl (op_ix _ _ _ _ _ _ _ _ Try.underlying28 sz3 (by decide) rfl rfl rfl (ix_ok hv35).1 (map_lt (ix_ok hv35).2) rfl),
                      st_plain rfl (op_load_e _ _ _ _ _ _ Try.underlying3 rfl rfl rfl (map_get hv36)),
                      st_plain rfl (op_move _ _ _ _ rfl rfl),
                      st_plain rfl (op_bin _ _ _ _ _ rfl rfl rfl),
                      st_plain rfl (op_move _ _ _ _ (congrArg (fun b => AV.v (Value.bool b)) hg15_6) rfl),
                      st_run 6 72 true rfl rfl rfl (List.Mem.head _) (op_move_take _ _ _ _ rfl),
                      st_run 6 72 true rfl rfl rfl (List.Mem.head _) (op_move _ _ _ _ rfl rfl),
                      st_run 6 72 true rfl rfl rfl (List.Mem.head _) (op_ix _ _ _ _ _ _ _ _ Try.underlying28 sz3 (by decide) rfl rfl rfl (ix_ok hv37).1 (map_lt (ix_ok hv37).2) rfl),
                      st_run 6 72 true rfl rfl rfl (List.Mem.head _) (op_load_e _ _ _ _ _ _ Try.underlying3 rfl rfl rfl (map_get hv38)),
                      st_run 6 72 true rfl rfl rfl (List.Mem.head _) (op_move _ _ _ _ rfl rfl),
                      st_run 6 72 true rfl rfl rfl (List.Mem.head _) (op_bin _ _ _ _ _ rfl rfl rfl),
                      st_plain rfl (op_pick _ _ true _ rfl rfl),
                      st_plain rfl (op_move _ _ _ _ (congrArg (fun b => AV.v (Value.bool b)) hg15_14) rfl),
                      st_run 14 80 true rfl rfl rfl (List.Mem.head _) (op_call _ _ 24 _ _ rfl Try.call24 rfl (ok_wherrylaw05_wakes  _ hv39) rfl rfl),
                      st_plain rfl (op_pick _ _ true _ rfl rfl),
                      st_plain rfl (op_assign _ _ _ _ rfl rfl),
                      trivial⟩ ?_
                  exact hl42 _ (Option.some.inj h).symm
                · refine ht_seqR hn (El := (_ :: _ :: _ :: _ :: _ :: (66, .fl (.own 3) 1 (List.map (Value.int .i64) v9.1)) :: (67, .v (.int .i64 v17)) :: (68, .eref (.slot 66) (v35 * 1)) :: (69, .v (.int .i64 v36)) :: (70, .v (.int .i64 s28)) :: (71, .v (.bool (v36 == s28))) :: (72, .v (.bool true)) :: (73, .fl (.own 3) 1 (List.map (Value.int .i64) v1.1)) :: (74, .v (.int .i64 v17)) :: (75, .eref (.slot 73) (v37 * 1)) :: (76, .v (.int .i64 v38)) :: (77, .v (.int .i64 s27)) :: (78, .v (.bool (v38 == s27))) :: (79, .v (.bool (v38 == s27))) :: (80, .v (.bool false)) :: (81, .v undef) :: (82, .v (.bool false)) :: (2, .v (.bool false)) :: [])) (init := [0, 1, 2, 3, 4]) (fin := [22]) (sps := (⟨[], [1], [5], [(.slot 66)]⟩ :: ⟨[2], [], [6], [(.slot 67)]⟩ :: ⟨[5, 6], [], [7], [(.slot 68)]⟩ :: ⟨[7, 5], [], [8], [(.slot 69)]⟩ :: ⟨[4], [], [9], [(.slot 70)]⟩ :: ⟨[8, 9], [], [10], [(.slot 71)]⟩ :: ⟨[10], [], [11], [(.slot 72)]⟩ :: ⟨[11], [0], [12], [(.slot 73)]⟩ :: ⟨[11, 2], [], [13], [(.slot 74)]⟩ :: ⟨[11, 12, 13], [], [14], [(.slot 75)]⟩ :: ⟨[11, 14, 12], [], [15], [(.slot 76)]⟩ :: ⟨[11, 3], [], [16], [(.slot 77)]⟩ :: ⟨[11, 15, 16], [], [17], [(.slot 78)]⟩ :: ⟨[11, 17], [], [18], [(.slot 79)]⟩ :: ⟨[18], [], [19], [(.slot 80)]⟩ :: ⟨[19], [], [20], [(.slot 81)]⟩ :: ⟨[19], [], [21], [(.slot 82)]⟩ :: ⟨[21], [], [22], [(.slot 2)]⟩ :: [])) (es' := [(2, .v (.bool false))]) (by kernel_rfl) rfl rfl
                    ⟨st_plain rfl (op_move_take _ _ _ _ rfl),
                      st_plain rfl (op_move _ _ _ _ rfl rfl),
                      st_plain rfl (op_ix _ _ _ _ _ _ _ _ Try.underlying28 sz3 (by decide) rfl rfl rfl (ix_ok hv35).1 (map_lt (ix_ok hv35).2) rfl),
                      st_plain rfl (op_load_e _ _ _ _ _ _ Try.underlying3 rfl rfl rfl (map_get hv36)),
                      st_plain rfl (op_move _ _ _ _ rfl rfl),
                      st_plain rfl (op_bin _ _ _ _ _ rfl rfl rfl),
                      st_plain rfl (op_move _ _ _ _ (congrArg (fun b => AV.v (Value.bool b)) hg15_6) rfl),
                      st_run 6 72 true rfl rfl rfl (List.Mem.head _) (op_move_take _ _ _ _ rfl),
                      st_run 6 72 true rfl rfl rfl (List.Mem.head _) (op_move _ _ _ _ rfl rfl),
                      st_run 6 72 true rfl rfl rfl (List.Mem.head _) (op_ix _ _ _ _ _ _ _ _ Try.underlying28 sz3 (by decide) rfl rfl rfl (ix_ok hv37).1 (map_lt (ix_ok hv37).2) rfl),
                      st_run 6 72 true rfl rfl rfl (List.Mem.head _) (op_load_e _ _ _ _ _ _ Try.underlying3 rfl rfl rfl (map_get hv38)),
                      st_run 6 72 true rfl rfl rfl (List.Mem.head _) (op_move _ _ _ _ rfl rfl),
                      st_run 6 72 true rfl rfl rfl (List.Mem.head _) (op_bin _ _ _ _ _ rfl rfl rfl),
                      st_plain rfl (op_pick _ _ true _ rfl rfl),
                      st_plain rfl (op_move _ _ _ _ (congrArg (fun b => AV.v (Value.bool b)) hg15_14) rfl),
                      st_skip 14 80 _ true rfl rfl rfl rfl (List.Mem.head _),
                      st_plain rfl (op_pick _ _ false _ rfl rfl),
                      st_plain rfl (op_assign _ _ _ _ rfl rfl),
                      trivial⟩ ?_
                  exact hl42 _ (Option.some.inj h).symm
              · refine ht_seqR hn (El := (_ :: _ :: _ :: _ :: _ :: (66, .fl (.own 3) 1 (List.map (Value.int .i64) v9.1)) :: (67, .v (.int .i64 v17)) :: (68, .eref (.slot 66) (v35 * 1)) :: (69, .v (.int .i64 v36)) :: (70, .v (.int .i64 s28)) :: (71, .v (.bool (v36 == s28))) :: (72, .v (.bool false)) :: (73, .v undef) :: (74, .v undef) :: (75, .v undef) :: (76, .v undef) :: (77, .v undef) :: (78, .v undef) :: (79, .v (.bool false)) :: (80, .v (.bool false)) :: (81, .v undef) :: (82, .v (.bool false)) :: (2, .v (.bool false)) :: [])) (init := [0, 1, 2, 3, 4]) (fin := [22]) (sps := (⟨[], [1], [5], [(.slot 66)]⟩ :: ⟨[2], [], [6], [(.slot 67)]⟩ :: ⟨[5, 6], [], [7], [(.slot 68)]⟩ :: ⟨[7, 5], [], [8], [(.slot 69)]⟩ :: ⟨[4], [], [9], [(.slot 70)]⟩ :: ⟨[8, 9], [], [10], [(.slot 71)]⟩ :: ⟨[10], [], [11], [(.slot 72)]⟩ :: ⟨[11], [], [12], [(.slot 73)]⟩ :: ⟨[11], [], [13], [(.slot 74)]⟩ :: ⟨[11], [], [14], [(.slot 75)]⟩ :: ⟨[11], [], [15], [(.slot 76)]⟩ :: ⟨[11], [], [16], [(.slot 77)]⟩ :: ⟨[11], [], [17], [(.slot 78)]⟩ :: ⟨[11], [], [18], [(.slot 79)]⟩ :: ⟨[18], [], [19], [(.slot 80)]⟩ :: ⟨[19], [], [20], [(.slot 81)]⟩ :: ⟨[19], [], [21], [(.slot 82)]⟩ :: ⟨[21], [], [22], [(.slot 2)]⟩ :: [])) (es' := [(2, .v (.bool false))]) (by kernel_rfl) rfl rfl
                  ⟨st_plain rfl (op_move_take _ _ _ _ rfl),
                    st_plain rfl (op_move _ _ _ _ rfl rfl),
                    st_plain rfl (op_ix _ _ _ _ _ _ _ _ Try.underlying28 sz3 (by decide) rfl rfl rfl (ix_ok hv35).1 (map_lt (ix_ok hv35).2) rfl),
                    st_plain rfl (op_load_e _ _ _ _ _ _ Try.underlying3 rfl rfl rfl (map_get hv36)),
                    st_plain rfl (op_move _ _ _ _ rfl rfl),
                    st_plain rfl (op_bin _ _ _ _ _ rfl rfl rfl),
                    st_plain rfl (op_move _ _ _ _ (congrArg (fun b => AV.v (Value.bool b)) hg15_6) rfl),
                    st_skip 6 72 _ true rfl rfl rfl rfl (List.Mem.head _),
                    st_skip 6 72 _ true rfl rfl rfl rfl (List.Mem.head _),
                    st_skip 6 72 _ true rfl rfl rfl rfl (List.Mem.head _),
                    st_skip 6 72 _ true rfl rfl rfl rfl (List.Mem.head _),
                    st_skip 6 72 _ true rfl rfl rfl rfl (List.Mem.head _),
                    st_skip 6 72 _ true rfl rfl rfl rfl (List.Mem.head _),
                    st_plain rfl (op_pick _ _ false _ rfl rfl),
                    st_plain rfl (op_move _ _ _ _ rfl rfl),
                    st_skip 14 80 _ true rfl rfl rfl rfl (List.Mem.head _),
                    st_plain rfl (op_pick _ _ false _ rfl rfl),
                    st_plain rfl (op_assign _ _ _ _ rfl rfl),
                    trivial⟩ ?_
                exact hl42 _ (Option.some.inj h).symm
          · intro u29 h hl30 hr31
            refine ht_block ?_
            refine ht_seq ?_
            refine ht_seqR hn (El := [_, _, _, _, _, (50, .v (.int .i64 v17)), (51, .v (.bool ((decide (280 ≤ v17))))), (49, .v (.bool ((decide (280 ≤ v17)))))]) (init := [0, 1, 2, 3, 4]) (fin := [0, 1, 2, 3, 4, 7]) (sps := [⟨[2], [], [5], [(.slot 50)]⟩, ⟨[5], [], [6], [(.slot 51)]⟩, ⟨[6], [], [7], [(.slot 49)]⟩]) (es' := [(_, _), (_, _), (_, _), (_, _), (_, _), (49, .v (.bool ((decide (280 ≤ v17)))))]) (by kernel_rfl) rfl rfl
              ⟨st_plain rfl (op_move _ _ _ _ rfl rfl),
                st_plain rfl (op_bin _ _ _ _ _ rfl rfl rfl),
                st_plain rfl (op_assign _ _ _ _ rfl rfl),
                trivial⟩ ?_
            refine pt_then ?_
            refine ht_cond _ rfl (fun hb32 => ?_) (fun hb32 => ?_)
            · have h := cond_t hb32 h
              obtain ⟨v20, hv20, h⟩ := bind_some h
              obtain ⟨v21, hv21, h⟩ := bind_some h
              refine ht_seqR hn (El := [_, _, _, _, _, _, (52, .v (.int .i64 v17)), (53, .v (.int .i64 v20)), (54, .v (.int .i64 v21)), (7, .v (.int .i64 v21))]) (init := [0, 1, 2, 3, 4, 5]) (fin := [0, 1, 2, 4, 9]) (sps := [⟨[2], [], [6], [(.slot 52)]⟩, ⟨[6], [], [7], [(.slot 53)]⟩, ⟨[7], [], [8], [(.slot 54)]⟩, ⟨[8], [3], [9], [(.slot 7)]⟩]) (es' := [(_, _), (_, _), (_, _), (_, _), (7, .v (.int .i64 v21))]) (by kernel_rfl) rfl rfl
                ⟨st_plain rfl (op_move _ _ _ _ rfl rfl),
                  st_plain rfl (op_bin _ _ _ _ _ rfl rfl (ibind (f := Value.int .i64) (Option.some.inj hv20))),
                  st_plain rfl (op_bin _ _ _ _ _ rfl rfl (ibind (f := Value.int .i64) (Option.some.inj hv21))),
                  st_plain rfl (LOp.drop [_] (op_assign _ _ _ _ rfl rfl)),
                  trivial⟩ ?_
              refine pt_inb ?_
              exact hl30 _ (Option.some.inj h).symm
            · have h := cond_f hb32 h
              refine ht_seq ?_
              refine ht_seqR hn (El := [_, _, _, _, _, _, (56, .v (.int .i64 v17)), (57, .v (.bool ((decide (256 ≤ v17))))), (55, .v (.bool ((decide (256 ≤ v17)))))]) (init := [0, 1, 2, 3, 4, 5]) (fin := [0, 1, 2, 3, 4, 8]) (sps := [⟨[2], [], [6], [(.slot 56)]⟩, ⟨[6], [], [7], [(.slot 57)]⟩, ⟨[7], [], [8], [(.slot 55)]⟩]) (es' := [(_, _), (_, _), (_, _), (_, _), (_, _), (55, .v (.bool ((decide (256 ≤ v17)))))]) (by kernel_rfl) rfl rfl
                ⟨st_plain rfl (op_move _ _ _ _ rfl rfl),
                  st_plain rfl (op_bin _ _ _ _ _ rfl rfl rfl),
                  st_plain rfl (op_assign _ _ _ _ rfl rfl),
                  trivial⟩ ?_
              refine pt_then ?_
              refine ht_cond _ rfl (fun hb33 => ?_) (fun hb33 => ?_)
              · have h := cond_t hb33 h
                obtain ⟨v23, hv23, h⟩ := bind_some h
                refine ht_seqR hn (El := [_, _, _, _, _, _, (58, .v (.int .i64 v17)), (59, .v (.int .i64 v23)), (7, .v (.int .i64 v23)), (8, .v (.int .i64 7))]) (init := [0, 1, 2, 3, 4, 5]) (fin := [0, 1, 2, 8, 9]) (sps := [⟨[2], [], [6], [(.slot 58)]⟩, ⟨[6], [], [7], [(.slot 59)]⟩, ⟨[7], [3], [8], [(.slot 7)]⟩, ⟨[], [4], [9], [(.slot 8)]⟩]) (es' := [(_, _), (_, _), (_, _), (7, .v (.int .i64 v23)), (8, .v (.int .i64 7))]) (by kernel_rfl) rfl rfl
                  ⟨st_plain rfl (op_move _ _ _ _ rfl rfl),
                    st_plain rfl (op_bin _ _ _ _ _ rfl rfl (ibind (f := Value.int .i64) (Option.some.inj hv23))),
                    st_plain rfl (LOp.drop [_] (op_assign _ _ _ _ rfl rfl)),
                    st_plain rfl (LOp.drop [_] (op_assign _ _ _ _ rfl rfl)),
                    trivial⟩ ?_
                refine pt_inb ?_
                refine pt_pick [0, 1, 2, 4, 3] (by kernel_rfl) (es' := [(_, _), (_, _), (_, _), (_, _), (_, _)]) rfl ?_
                exact hl30 _ (Option.some.inj h).symm
              · have h := cond_f hb33 h
                refine ht_seq ?_
                refine ht_seqR hn (El := [_, _, _, _, _, _, (61, .v (.int .i64 v17)), (62, .v (.bool ((decide (144 ≤ v17))))), (60, .v (.bool ((decide (144 ≤ v17)))))]) (init := [0, 1, 2, 3, 4, 5]) (fin := [0, 1, 2, 3, 4, 8]) (sps := [⟨[2], [], [6], [(.slot 61)]⟩, ⟨[6], [], [7], [(.slot 62)]⟩, ⟨[7], [], [8], [(.slot 60)]⟩]) (es' := [(_, _), (_, _), (_, _), (_, _), (_, _), (60, .v (.bool ((decide (144 ≤ v17)))))]) (by kernel_rfl) rfl rfl
                  ⟨st_plain rfl (op_move _ _ _ _ rfl rfl),
                    st_plain rfl (op_bin _ _ _ _ _ rfl rfl rfl),
                    st_plain rfl (op_assign _ _ _ _ rfl rfl),
                    trivial⟩ ?_
                refine pt_then ?_
                refine ht_cond _ rfl (fun hb34 => ?_) (fun hb34 => ?_)
                · have h := cond_t hb34 h
                  obtain ⟨v25, hv25, h⟩ := bind_some h
                  obtain ⟨v26, hv26, h⟩ := bind_some h
                  refine ht_seqR hn (El := [_, _, _, _, _, _, (63, .v (.int .i64 v17)), (64, .v (.int .i64 v25)), (65, .v (.int .i64 v26)), (7, .v (.int .i64 v26)), (8, .v (.int .i64 9))]) (init := [0, 1, 2, 3, 4, 5]) (fin := [0, 1, 2, 9, 10]) (sps := [⟨[2], [], [6], [(.slot 63)]⟩, ⟨[6], [], [7], [(.slot 64)]⟩, ⟨[7], [], [8], [(.slot 65)]⟩, ⟨[8], [3], [9], [(.slot 7)]⟩, ⟨[], [4], [10], [(.slot 8)]⟩]) (es' := [(_, _), (_, _), (_, _), (7, .v (.int .i64 v26)), (8, .v (.int .i64 9))]) (by kernel_rfl) rfl rfl
                    ⟨st_plain rfl (op_move _ _ _ _ rfl rfl),
                      st_plain rfl (op_bin _ _ _ _ _ rfl rfl (ibind (f := Value.int .i64) (Option.some.inj hv25))),
                      st_plain rfl (op_bin _ _ _ _ _ rfl rfl (ibind (f := Value.int .i64) (Option.some.inj hv26))),
                      st_plain rfl (LOp.drop [_] (op_assign _ _ _ _ rfl rfl)),
                      st_plain rfl (LOp.drop [_] (op_assign _ _ _ _ rfl rfl)),
                      trivial⟩ ?_
                  refine pt_inb ?_
                  refine pt_pick [0, 1, 2, 4, 3] (by kernel_rfl) (es' := [(_, _), (_, _), (_, _), (_, _), (_, _)]) rfl ?_
                  exact hl30 _ (Option.some.inj h).symm
                · have h := cond_f hb34 h
                  refine ht_skip ?_
                  refine pt_inb ?_
                  refine pt_pick [0, 1, 2, 4, 3] (by kernel_rfl) (es' := [(_, _), (_, _), (_, _), (_, _), (_, _)]) rfl ?_
                  exact hl30 _ (Option.some.inj h).symm
      · intro u11 h hl12 hr13
        refine cond_some h (fun hg5_2 h => ?_) (fun hg5_2 h => ?_)
        · refine ht_seqR hn (El := [_, _, _, _, (36, .v (.int .i64 v9.2)), (37, .v (.bool (v9.2 != 0))), (38, .v (.bool true)), (39, .v undef), (40, .v undef), (41, .v undef), (42, .v (.bool true))]) (init := [0, 1, 2, 3]) (fin := [0, 1, 2, 10]) (sps := [⟨[3], [], [4], [(.slot 36)]⟩, ⟨[4], [], [5], [(.slot 37)]⟩, ⟨[5], [], [6], [(.slot 38)]⟩, ⟨[6], [], [7], [(.slot 39)]⟩, ⟨[6], [], [8], [(.slot 40)]⟩, ⟨[6], [], [9], [(.slot 41)]⟩, ⟨[6], [], [10], [(.slot 42)]⟩]) (es' := [(_, _), (_, _), (_, _), (42, .v (.bool true))]) (by kernel_rfl) rfl rfl
            ⟨st_plain rfl (op_move _ _ _ _ rfl rfl),
              st_plain rfl (op_bin _ _ _ _ _ rfl rfl rfl),
              st_plain rfl (op_move _ _ _ _ (congrArg (fun b => AV.v (Value.bool b)) hg5_2) rfl),
              st_skip 2 38 _ false rfl rfl rfl rfl (List.Mem.head _),
              st_skip 2 38 _ false rfl rfl rfl rfl (List.Mem.head _),
              st_skip 2 38 _ false rfl rfl rfl rfl (List.Mem.head _),
              st_plain rfl (op_pick _ _ true _ rfl rfl),
              trivial⟩ ?_
          exact hl12 _ (Option.some.inj h).symm
        · refine ht_seqR hn (El := [_, _, _, _, (36, .v (.int .i64 v9.2)), (37, .v (.bool (v9.2 != 0))), (38, .v (.bool false)), (39, .same (.slot 5)), (40, .v (.int .i64 (v9.1.length : Int))), (41, .v (.bool (((v9.1.length : Int) != 288)))), (42, .v (.bool (((v9.1.length : Int) != 288))))]) (init := [0, 1, 2, 3]) (fin := [0, 1, 2, 10]) (sps := [⟨[3], [], [4], [(.slot 36)]⟩, ⟨[4], [], [5], [(.slot 37)]⟩, ⟨[5], [], [6], [(.slot 38)]⟩, ⟨[6, 2], [], [7], [(.slot 39)]⟩, ⟨[6, 7, 2], [], [8], [(.slot 40)]⟩, ⟨[6, 8], [], [9], [(.slot 41)]⟩, ⟨[6, 9], [], [10], [(.slot 42)]⟩]) (es' := [(_, _), (_, _), (_, _), (42, .v (.bool (((v9.1.length : Int) != 288))))]) (by kernel_rfl) rfl rfl
            ⟨st_plain rfl (op_move _ _ _ _ rfl rfl),
              st_plain rfl (op_bin _ _ _ _ _ rfl rfl rfl),
              st_plain rfl (op_move _ _ _ _ (congrArg (fun b => AV.v (Value.bool b)) hg5_2) rfl),
              st_run 2 38 false rfl rfl rfl (List.Mem.head _) (op_move _ _ _ _ rfl rfl),
              st_run 2 38 false rfl rfl rfl (List.Mem.head _) (op_len_fl _ _ _ Try.underlying28 rfl (by decide) (map_len _)),
              st_run 2 38 false rfl rfl rfl (List.Mem.head _) (op_bin _ _ _ _ _ rfl rfl rfl),
              st_plain rfl (op_pick _ _ false _ rfl rfl),
              trivial⟩ ?_
          exact hl12 _ (Option.some.inj h).symm
  · intro u5 h hl6 hr7
    refine cond_some h (fun hg2_3 h => ?_) (fun hg2_3 h => ?_)
    · refine ht_seqR hn (El := (_ :: _ :: _ :: (13, .same (.slot 3)) :: (14, .v (.int .i64 (v1.1.length : Int))) :: (15, .v (.bool (((v1.1.length : Int) != 288)))) :: (16, .v (.bool true)) :: (17, .v undef) :: (18, .v undef) :: (19, .v undef) :: (20, .v (.bool true)) :: (21, .v (.bool true)) :: (22, .v undef) :: (23, .v undef) :: (24, .v undef) :: (25, .v (.bool true)) :: (26, .v (.bool true)) :: (27, .v undef) :: (28, .v undef) :: (29, .v undef) :: (30, .v (.bool true)) :: [])) (init := [0, 1, 2]) (fin := [0, 1, 20]) (sps := (⟨[1], [], [3], [(.slot 13)]⟩ :: ⟨[3, 1], [], [4], [(.slot 14)]⟩ :: ⟨[4], [], [5], [(.slot 15)]⟩ :: ⟨[5], [], [6], [(.slot 16)]⟩ :: ⟨[6], [], [7], [(.slot 17)]⟩ :: ⟨[6], [], [8], [(.slot 18)]⟩ :: ⟨[6], [], [9], [(.slot 19)]⟩ :: ⟨[6], [], [10], [(.slot 20)]⟩ :: ⟨[10], [], [11], [(.slot 21)]⟩ :: ⟨[11], [], [12], [(.slot 22)]⟩ :: ⟨[11], [], [13], [(.slot 23)]⟩ :: ⟨[11], [], [14], [(.slot 24)]⟩ :: ⟨[11], [], [15], [(.slot 25)]⟩ :: ⟨[15], [], [16], [(.slot 26)]⟩ :: ⟨[16], [], [17], [(.slot 27)]⟩ :: ⟨[16], [], [18], [(.slot 28)]⟩ :: ⟨[16], [], [19], [(.slot 29)]⟩ :: ⟨[16], [], [20], [(.slot 30)]⟩ :: [])) (es' := [(_, _), (_, _), (30, .v (.bool true))]) (by kernel_rfl) rfl rfl
        ⟨st_plain rfl (op_move _ _ _ _ rfl rfl),
          st_plain rfl (op_len_fl _ _ _ Try.underlying28 rfl (by decide) (map_len _)),
          st_plain rfl (op_bin _ _ _ _ _ rfl rfl rfl),
          st_plain rfl (op_move _ _ _ _ (congrArg (fun b => AV.v (Value.bool b)) hg2_3) rfl),
          st_skip 3 16 _ false rfl rfl rfl rfl (List.Mem.head _),
          st_skip 3 16 _ false rfl rfl rfl rfl (List.Mem.head _),
          st_skip 3 16 _ false rfl rfl rfl rfl (List.Mem.head _),
          st_plain rfl (op_pick _ _ true _ rfl rfl),
          st_plain rfl (op_move _ _ _ _ rfl rfl),
          st_skip 8 21 _ false rfl rfl rfl rfl (List.Mem.head _),
          st_skip 8 21 _ false rfl rfl rfl rfl (List.Mem.head _),
          st_skip 8 21 _ false rfl rfl rfl rfl (List.Mem.head _),
          st_plain rfl (op_pick _ _ true _ rfl rfl),
          st_plain rfl (op_move _ _ _ _ rfl rfl),
          st_skip 13 26 _ false rfl rfl rfl rfl (List.Mem.head _),
          st_skip 13 26 _ false rfl rfl rfl rfl (List.Mem.head _),
          st_skip 13 26 _ false rfl rfl rfl rfl (List.Mem.head _),
          st_plain rfl (op_pick _ _ true _ rfl rfl),
          trivial⟩ ?_
      exact hl6 _ (Option.some.inj h).symm
    · refine cond_some h (fun hg2_8 h => ?_) (fun hg2_8 h => ?_)
      · refine ht_seqR hn (El := (_ :: _ :: _ :: (13, .same (.slot 3)) :: (14, .v (.int .i64 (v1.1.length : Int))) :: (15, .v (.bool (((v1.1.length : Int) != 288)))) :: (16, .v (.bool false)) :: (17, .same (.slot 4)) :: (18, .v (.int .i64 (v1.2.length : Int))) :: (19, .v (.bool (((v1.2.length : Int) != 32)))) :: (20, .v (.bool (((v1.2.length : Int) != 32)))) :: (21, .v (.bool true)) :: (22, .v undef) :: (23, .v undef) :: (24, .v undef) :: (25, .v (.bool true)) :: (26, .v (.bool true)) :: (27, .v undef) :: (28, .v undef) :: (29, .v undef) :: (30, .v (.bool true)) :: [])) (init := [0, 1, 2]) (fin := [0, 1, 20]) (sps := (⟨[1], [], [3], [(.slot 13)]⟩ :: ⟨[3, 1], [], [4], [(.slot 14)]⟩ :: ⟨[4], [], [5], [(.slot 15)]⟩ :: ⟨[5], [], [6], [(.slot 16)]⟩ :: ⟨[6, 2], [], [7], [(.slot 17)]⟩ :: ⟨[6, 7, 2], [], [8], [(.slot 18)]⟩ :: ⟨[6, 8], [], [9], [(.slot 19)]⟩ :: ⟨[6, 9], [], [10], [(.slot 20)]⟩ :: ⟨[10], [], [11], [(.slot 21)]⟩ :: ⟨[11], [], [12], [(.slot 22)]⟩ :: ⟨[11], [], [13], [(.slot 23)]⟩ :: ⟨[11], [], [14], [(.slot 24)]⟩ :: ⟨[11], [], [15], [(.slot 25)]⟩ :: ⟨[15], [], [16], [(.slot 26)]⟩ :: ⟨[16], [], [17], [(.slot 27)]⟩ :: ⟨[16], [], [18], [(.slot 28)]⟩ :: ⟨[16], [], [19], [(.slot 29)]⟩ :: ⟨[16], [], [20], [(.slot 30)]⟩ :: [])) (es' := [(_, _), (_, _), (30, .v (.bool true))]) (by kernel_rfl) rfl rfl
          ⟨st_plain rfl (op_move _ _ _ _ rfl rfl),
            st_plain rfl (op_len_fl _ _ _ Try.underlying28 rfl (by decide) (map_len _)),
            st_plain rfl (op_bin _ _ _ _ _ rfl rfl rfl),
            st_plain rfl (op_move _ _ _ _ (congrArg (fun b => AV.v (Value.bool b)) hg2_3) rfl),
            st_run 3 16 false rfl rfl rfl (List.Mem.head _) (op_move _ _ _ _ rfl rfl),
            st_run 3 16 false rfl rfl rfl (List.Mem.head _) (op_len_fl _ _ _ Try.underlying28 rfl (by decide) (map_len _)),
            st_run 3 16 false rfl rfl rfl (List.Mem.head _) (op_bin _ _ _ _ _ rfl rfl rfl),
            st_plain rfl (op_pick _ _ false _ rfl rfl),
            st_plain rfl (op_move _ _ _ _ (congrArg (fun b => AV.v (Value.bool b)) hg2_8) rfl),
            st_skip 8 21 _ false rfl rfl rfl rfl (List.Mem.head _),
            st_skip 8 21 _ false rfl rfl rfl rfl (List.Mem.head _),
            st_skip 8 21 _ false rfl rfl rfl rfl (List.Mem.head _),
            st_plain rfl (op_pick _ _ true _ rfl rfl),
            st_plain rfl (op_move _ _ _ _ rfl rfl),
            st_skip 13 26 _ false rfl rfl rfl rfl (List.Mem.head _),
            st_skip 13 26 _ false rfl rfl rfl rfl (List.Mem.head _),
            st_skip 13 26 _ false rfl rfl rfl rfl (List.Mem.head _),
            st_plain rfl (op_pick _ _ true _ rfl rfl),
            trivial⟩ ?_
        exact hl6 _ (Option.some.inj h).symm
      · obtain ⟨v2, hv2, h⟩ := bind_some h
        refine cond_some h (fun hg2_13 h => ?_) (fun hg2_13 h => ?_)
        · refine ht_seqR hn (El := (_ :: _ :: _ :: (13, .same (.slot 3)) :: (14, .v (.int .i64 (v1.1.length : Int))) :: (15, .v (.bool (((v1.1.length : Int) != 288)))) :: (16, .v (.bool false)) :: (17, .same (.slot 4)) :: (18, .v (.int .i64 (v1.2.length : Int))) :: (19, .v (.bool (((v1.2.length : Int) != 32)))) :: (20, .v (.bool (((v1.2.length : Int) != 32)))) :: (21, .v (.bool false)) :: (22, .same (.slot 3)) :: (23, .v (.int .i64 v2)) :: (24, .v (.bool (v2 != 0))) :: (25, .v (.bool (v2 != 0))) :: (26, .v (.bool true)) :: (27, .v undef) :: (28, .v undef) :: (29, .v undef) :: (30, .v (.bool true)) :: [])) (init := [0, 1, 2]) (fin := [0, 1, 20]) (sps := (⟨[1], [], [3], [(.slot 13)]⟩ :: ⟨[3, 1], [], [4], [(.slot 14)]⟩ :: ⟨[4], [], [5], [(.slot 15)]⟩ :: ⟨[5], [], [6], [(.slot 16)]⟩ :: ⟨[6, 2], [], [7], [(.slot 17)]⟩ :: ⟨[6, 7, 2], [], [8], [(.slot 18)]⟩ :: ⟨[6, 8], [], [9], [(.slot 19)]⟩ :: ⟨[6, 9], [], [10], [(.slot 20)]⟩ :: ⟨[10], [], [11], [(.slot 21)]⟩ :: ⟨[11, 1], [], [12], [(.slot 22)]⟩ :: ⟨[11, 12, 1], [], [13], [(.slot 23)]⟩ :: ⟨[11, 13], [], [14], [(.slot 24)]⟩ :: ⟨[11, 14], [], [15], [(.slot 25)]⟩ :: ⟨[15], [], [16], [(.slot 26)]⟩ :: ⟨[16], [], [17], [(.slot 27)]⟩ :: ⟨[16], [], [18], [(.slot 28)]⟩ :: ⟨[16], [], [19], [(.slot 29)]⟩ :: ⟨[16], [], [20], [(.slot 30)]⟩ :: [])) (es' := [(_, _), (_, _), (30, .v (.bool true))]) (by kernel_rfl) rfl rfl
            ⟨st_plain rfl (op_move _ _ _ _ rfl rfl),
              st_plain rfl (op_len_fl _ _ _ Try.underlying28 rfl (by decide) (map_len _)),
              st_plain rfl (op_bin _ _ _ _ _ rfl rfl rfl),
              st_plain rfl (op_move _ _ _ _ (congrArg (fun b => AV.v (Value.bool b)) hg2_3) rfl),
              st_run 3 16 false rfl rfl rfl (List.Mem.head _) (op_move _ _ _ _ rfl rfl),
              st_run 3 16 false rfl rfl rfl (List.Mem.head _) (op_len_fl _ _ _ Try.underlying28 rfl (by decide) (map_len _)),
              st_run 3 16 false rfl rfl rfl (List.Mem.head _) (op_bin _ _ _ _ _ rfl rfl rfl),
              st_plain rfl (op_pick _ _ false _ rfl rfl),
              st_plain rfl (op_move _ _ _ _ (congrArg (fun b => AV.v (Value.bool b)) hg2_8) rfl),
              st_run 8 21 false rfl rfl rfl (List.Mem.head _) (op_move _ _ _ _ rfl rfl),
              st_run 8 21 false rfl rfl rfl (List.Mem.head _) (op_call _ _ 25 _ _ rfl Try.call25 rfl (ok_canon_Check v1.1 _ hv2) rfl rfl),
              st_run 8 21 false rfl rfl rfl (List.Mem.head _) (op_bin _ _ _ _ _ rfl rfl rfl),
              st_plain rfl (op_pick _ _ false _ rfl rfl),
              st_plain rfl (op_move _ _ _ _ (congrArg (fun b => AV.v (Value.bool b)) hg2_13) rfl),
              st_skip 13 26 _ false rfl rfl rfl rfl (List.Mem.head _),
              st_skip 13 26 _ false rfl rfl rfl rfl (List.Mem.head _),
              st_skip 13 26 _ false rfl rfl rfl rfl (List.Mem.head _),
              st_plain rfl (op_pick _ _ true _ rfl rfl),
              trivial⟩ ?_
          exact hl6 _ (Option.some.inj h).symm
        · obtain ⟨v3, hv3, h⟩ := bind_some h
          refine ht_seqR hn (El := (_ :: _ :: _ :: (13, .same (.slot 3)) :: (14, .v (.int .i64 (v1.1.length : Int))) :: (15, .v (.bool (((v1.1.length : Int) != 288)))) :: (16, .v (.bool false)) :: (17, .same (.slot 4)) :: (18, .v (.int .i64 (v1.2.length : Int))) :: (19, .v (.bool (((v1.2.length : Int) != 32)))) :: (20, .v (.bool (((v1.2.length : Int) != 32)))) :: (21, .v (.bool false)) :: (22, .same (.slot 3)) :: (23, .v (.int .i64 v2)) :: (24, .v (.bool (v2 != 0))) :: (25, .v (.bool (v2 != 0))) :: (26, .v (.bool false)) :: (27, .fl (.own 3) 1 (List.map (Value.int .i64) v1.2)) :: (28, .v (.int .i64 v3)) :: (29, .v (.bool (v3 != 0))) :: (30, .v (.bool (v3 != 0))) :: [])) (init := [0, 1, 2]) (fin := [0, 1, 20]) (sps := (⟨[1], [], [3], [(.slot 13)]⟩ :: ⟨[3, 1], [], [4], [(.slot 14)]⟩ :: ⟨[4], [], [5], [(.slot 15)]⟩ :: ⟨[5], [], [6], [(.slot 16)]⟩ :: ⟨[6, 2], [], [7], [(.slot 17)]⟩ :: ⟨[6, 7, 2], [], [8], [(.slot 18)]⟩ :: ⟨[6, 8], [], [9], [(.slot 19)]⟩ :: ⟨[6, 9], [], [10], [(.slot 20)]⟩ :: ⟨[10], [], [11], [(.slot 21)]⟩ :: ⟨[11, 1], [], [12], [(.slot 22)]⟩ :: ⟨[11, 12, 1], [], [13], [(.slot 23)]⟩ :: ⟨[11, 13], [], [14], [(.slot 24)]⟩ :: ⟨[11, 14], [], [15], [(.slot 25)]⟩ :: ⟨[15], [], [16], [(.slot 26)]⟩ :: ⟨[16], [7, 2], [17], [(.slot 27)]⟩ :: ⟨[16, 17], [], [18], [(.slot 28)]⟩ :: ⟨[16, 18], [], [19], [(.slot 29)]⟩ :: ⟨[16, 19], [], [20], [(.slot 30)]⟩ :: [])) (es' := [(_, _), (_, _), (30, .v (.bool (v3 != 0)))]) (by kernel_rfl) rfl rfl
            ⟨st_plain rfl (op_move _ _ _ _ rfl rfl),
              st_plain rfl (op_len_fl _ _ _ Try.underlying28 rfl (by decide) (map_len _)),
              st_plain rfl (op_bin _ _ _ _ _ rfl rfl rfl),
              st_plain rfl (op_move _ _ _ _ (congrArg (fun b => AV.v (Value.bool b)) hg2_3) rfl),
              st_run 3 16 false rfl rfl rfl (List.Mem.head _) (op_move _ _ _ _ rfl rfl),
              st_run 3 16 false rfl rfl rfl (List.Mem.head _) (op_len_fl _ _ _ Try.underlying28 rfl (by decide) (map_len _)),
              st_run 3 16 false rfl rfl rfl (List.Mem.head _) (op_bin _ _ _ _ _ rfl rfl rfl),
              st_plain rfl (op_pick _ _ false _ rfl rfl),
              st_plain rfl (op_move _ _ _ _ (congrArg (fun b => AV.v (Value.bool b)) hg2_8) rfl),
              st_run 8 21 false rfl rfl rfl (List.Mem.head _) (op_move _ _ _ _ rfl rfl),
              st_run 8 21 false rfl rfl rfl (List.Mem.head _) (op_call _ _ 25 _ _ rfl Try.call25 rfl (ok_canon_Check v1.1 _ hv2) rfl rfl),
              st_run 8 21 false rfl rfl rfl (List.Mem.head _) (op_bin _ _ _ _ _ rfl rfl rfl),
              st_plain rfl (op_pick _ _ false _ rfl rfl),
              st_plain rfl (op_move _ _ _ _ (congrArg (fun b => AV.v (Value.bool b)) hg2_13) rfl),
              st_run 13 26 false rfl rfl rfl (List.Mem.head _) (LOp.drop [_] (op_move_take _ _ _ _ rfl)),
              st_run 13 26 false rfl rfl rfl (List.Mem.head _) (op_call _ _ 25 _ _ rfl Try.call25 rfl (ok_canon_Check v1.2 _ hv3) rfl rfl),
              st_run 13 26 false rfl rfl rfl (List.Mem.head _) (op_bin _ _ _ _ _ rfl rfl rfl),
              st_plain rfl (op_pick _ _ false _ rfl rfl),
              trivial⟩ ?_
          exact hl6 _ (Option.some.inj h).symm

end Go.Proofs.Ytepjhmgmejpkpaa
