/-
  The model's runs are what is told in Lean.
-/
import Derived.Test.YtepjhmgmejpkpaaProg
import Derived.KernelRfl
import Derived.Test.YtepjhmgmejpkpaaSh
set_option linter.unusedVariables false
set_option linter.unusedSimpArgs false
namespace Go.Proofs.Ytepjhmgmejpkpaa
open Go.Abs Go.Abs.Sh

theorem zr52 : (Try.prog.info? 52).bind (·.zero) = some (.agg #[.int .i64 0, .int .i64 0, .int .i64 0]) := by kernel_rfl
theorem fs52 : ∀ fs, Try.prog.underlying 52 = some (.struct fs) → fs.toList.map (fun f => (Try.prog.info? f.type).map (·.size)) = ([1, 1, 1] : List Nat).map some := by
  intro fs h
  rw [Try.underlying52] at h
  cases h
  kernel_rfl
theorem sz52 : (Try.prog.info? 52).map (·.size) = some 3 := by kernel_rfl
theorem sz3 : (Try.prog.info? 3).map (·.size) = some 1 := by kernel_rfl
theorem zr3 : (Try.prog.info? 3).bind (·.zero) = some (.int .i64 0) := by kernel_rfl
theorem el28 : ElemT Try.prog 28 3 1 8 := ⟨⟨Try.t3, .int .i64 0, Try.underlying28, by kernel_rfl, by kernel_rfl, by kernel_rfl, by kernel_rfl, by decide, by kernel_rfl⟩⟩
theorem el22 : ElemT Try.prog 22 48 3 24 := ⟨⟨Try.t48, .agg #[.int .u8 0, .int .i64 0, .int .i64 0], Try.underlying22, by kernel_rfl, by kernel_rfl, by kernel_rfl, by kernel_rfl, by decide, by kernel_rfl⟩⟩
theorem sz48 : (Try.prog.info? 48).map (·.size) = some 3 := by kernel_rfl
theorem zr48 : (Try.prog.info? 48).bind (·.zero) = some (.agg #[.int .u8 0, .int .i64 0, .int .i64 0]) := by kernel_rfl
theorem sz5 : (Try.prog.info? 5).map (·.size) = some 1 := by kernel_rfl
theorem za64 : ((Try.prog.info? 64).bind (·.zero)).map (·.cells.toList) = some (List.map (Value.int .i64) (List.replicate 16 (0 : Int))) := by kernel_rfl
theorem sz64 : (Try.prog.info? 64).map (·.size) = some 16 := by kernel_rfl
theorem zr64 : (Try.prog.info? 64).bind (·.zero) = some (.agg #[.int .i64 0, .int .i64 0, .int .i64 0, .int .i64 0, .int .i64 0, .int .i64 0, .int .i64 0, .int .i64 0, .int .i64 0, .int .i64 0, .int .i64 0, .int .i64 0, .int .i64 0, .int .i64 0, .int .i64 0, .int .i64 0]) := by kernel_rfl
theorem fs48 : ∀ fs, Try.prog.underlying 48 = some (.struct fs) → fs.toList.map (fun f => (Try.prog.info? f.type).map (·.size)) = ([1, 1, 1] : List Nat).map some := by
  intro fs h
  rw [Try.underlying48] at h
  cases h
  kernel_rfl

set_option maxHeartbeats 1000000 in
theorem ok_sym_lens (r : T_sym_scale) (h : Sh.sym_lens  = some r) : FnOK Try.prog 28 [] (.agg [.v (.int .i64 r.least), .v (.int .i64 r.singles), .v (.int .i64 r.group)]) := by
  unfold Sh.sym_lens at h
  refine fn_ok Try.func28 rfl (Nat.le_of_ble_eq_true rfl) rfl rfl fun g0 hn hio => ?_
  refine ht_seq ?_
  refine ht_seqR hn (El := [(0, .box 52 [.v (.int .i64 0), .v (.int .i64 0), .v (.int .i64 0)])]) (init := []) (fin := [0]) (sps := [⟨[], [], [0], [(.slot 0)]⟩]) (es' := [(0, .box 52 [.v (.int .i64 0), .v (.int .i64 0), .v (.int .i64 0)])]) (by kernel_rfl) rfl rfl
    ⟨st_plain rfl (op_alloc _ _ zr52),
      trivial⟩ ?_
  refine pt_then ?_
  refine ht_seq ?_
  refine ht_seqR hn (El := [_, (1, .agg [.v (.int .i64 3), .v (.int .i64 8), .v (.int .i64 4)]), (0, .box 52 [.v (.int .i64 3), .v (.int .i64 8), .v (.int .i64 4)])]) (init := [0]) (fin := [2]) (sps := [⟨[], [], [1], [(.slot 1)]⟩, ⟨[1], [0], [2], [.cell 0 0, .cell 0 1, .cell 0 2]⟩]) (es' := [(0, .box 52 [.v (.int .i64 3), .v (.int .i64 8), .v (.int .i64 4)])]) (by kernel_rfl) rfl rfl
    ⟨st_plain rfl (op_build _ _ _ _ [1, 1, 1] _ _ Try.underlying52 zr52 (fs52 _ Try.underlying52) (.copy _ (.copy _ (.copy _ Src.nil))) rfl rfl rfl),
      st_plain rfl (op_store _ _ _ _ _ _ _ _ sz52 rfl rfl rfl rfl (Nat.le_of_ble_eq_true rfl) rfl rfl),
      trivial⟩ ?_
  refine pt_then ?_
  refine ht_ret ?_
  obtain rfl := Option.some.inj h
  exact pt_ret hio rfl (.cellA _ _ _ _ Try.underlying52 rfl sz52 .nil) rfl rfl

set_option maxHeartbeats 1000000 in
theorem ok_sym_scale_symbol (s : T_sym_scale) (sym : Int) (r : (Int × Int)) (h : Sh.sym_scale_symbol s sym = some r) : FnOK Try.prog 33 [.agg [.v (.int .i64 s.least), .v (.int .i64 s.singles), .v (.int .i64 s.group)], .v (.int .i64 sym)] (.tup [.v (.int .i64 r.1), .v (.int .i64 r.2)]) := by
  unfold Sh.sym_scale_symbol at h
  refine fn_ok Try.func33 rfl (Nat.le_of_ble_eq_true rfl) rfl rfl fun g0 hn hio => ?_
  refine ht_seq ?_
  refine ht_seqR hn (El := [_, _, (2, .box 52 [.v (.int .i64 s.least), .v (.int .i64 s.singles), .v (.int .i64 s.group)]), (4, .v (.int .i64 0)), (5, .v (.int .i64 0))]) (init := [0, 1]) (fin := [1, 2]) (sps := [⟨[0], [], [2], [(.slot 2)]⟩, ⟨[], [], [3], [(.slot 4)]⟩, ⟨[], [], [4], [(.slot 5)]⟩]) (es' := [(_, _), (2, .box 52 [.v (.int .i64 s.least), .v (.int .i64 s.singles), .v (.int .i64 s.group)])]) (by kernel_rfl) rfl rfl
    ⟨st_plain rfl (op_box _ _ _ _ rfl rfl rfl),
      st_plain rfl (op_assign _ _ _ _ rfl rfl),
      st_plain rfl (op_assign _ _ _ _ rfl rfl),
      trivial⟩ ?_
  refine pt_then ?_
  refine ht_seq ?_
  refine ht_seq ?_
  refine ht_seqR hn (El := [_, _, (7, .v (.int .i64 sym)), (8, .ptr 2 1), (9, .v (.int .i64 s.singles)), (10, .v (.bool ((decide (sym < s.singles)))))]) (init := [0, 1]) (fin := [0, 1, 5]) (sps := [⟨[0], [], [2], [(.slot 7)]⟩, ⟨[1], [], [3], [(.slot 8)]⟩, ⟨[3, 1], [], [4], [(.slot 9)]⟩, ⟨[2, 4], [], [5], [(.slot 10)]⟩]) (es' := [(_, _), (_, _), (10, .v (.bool ((decide (sym < s.singles)))))]) (by kernel_rfl) rfl rfl
    ⟨st_plain rfl (op_move _ _ _ _ rfl rfl),
      st_plain rfl (op_fieldAddr _ _ _ _ 2 0 _ Try.underlying52 rfl sz3 rfl rfl (by decide)),
      st_plain rfl (op_load _ _ _ _ _ _ Try.underlying3 rfl rfl rfl (Nat.le_of_ble_eq_true rfl) rfl rfl rfl),
      st_plain rfl (op_bin _ _ _ _ _ rfl rfl rfl),
      trivial⟩ ?_
  refine pt_then ?_
  refine ht_cond _ rfl (fun hb1 => ?_) (fun hb1 => ?_)
  · have h := cond_t hb1 h
    refine ht_seq ?_
    obtain ⟨v2, hv2, h⟩ := bind_some h
    refine ht_seqR hn (El := [_, _, _, (11, .ptr 2 0), (12, .v (.int .i64 s.least)), (13, .v (.int .i64 sym)), (14, .v (.int .i64 v2)), (4, .v (.int .i64 v2)), (5, .v (.int .i64 0))]) (init := [0, 1, 2]) (fin := [7, 8]) (sps := [⟨[1], [], [3], [(.slot 11)]⟩, ⟨[3, 1], [], [4], [(.slot 12)]⟩, ⟨[0], [], [5], [(.slot 13)]⟩, ⟨[4, 5], [], [6], [(.slot 14)]⟩, ⟨[6], [], [7], [(.slot 4)]⟩, ⟨[], [], [8], [(.slot 5)]⟩]) (es' := [(4, .v (.int .i64 v2)), (5, .v (.int .i64 0))]) (by kernel_rfl) rfl rfl
      ⟨st_plain rfl (op_fieldAddr _ _ _ _ 2 0 _ Try.underlying52 rfl sz3 rfl rfl (by decide)),
        st_plain rfl (op_load _ _ _ _ _ _ Try.underlying3 rfl rfl rfl (Nat.le_of_ble_eq_true rfl) rfl rfl rfl),
        st_plain rfl (op_move _ _ _ _ rfl rfl),
        st_plain rfl (op_bin _ _ _ _ _ rfl rfl (ibind (f := Value.int .i64) (Option.some.inj hv2))),
        st_plain rfl (op_assign _ _ _ _ rfl rfl),
        st_plain rfl (op_assign _ _ _ _ rfl rfl),
        trivial⟩ ?_
    refine pt_then ?_
    refine ht_ret ?_
    refine pt_r_then ?_
    obtain rfl := Option.some.inj h
    exact pt_ret hio rfl (.tmp _ _ (.tmp _ _ .nil)) rfl rfl
  · have h := cond_f hb1 h
    refine ht_skip ?_
    refine pt_then ?_
    refine ht_seq ?_
    obtain ⟨v3, hv3, h⟩ := bind_some h
    refine ht_seqR hn (El := [_, _, _, (15, .ptr 2 0), (16, .v (.int .i64 s.least)), (17, .ptr 2 1), (18, .v (.int .i64 s.singles)), (19, .v (.int .i64 v3)), (4, .v (.int .i64 v3))]) (init := [0, 1, 2]) (fin := [0, 1, 8]) (sps := [⟨[1], [], [3], [(.slot 15)]⟩, ⟨[3, 1], [], [4], [(.slot 16)]⟩, ⟨[1], [], [5], [(.slot 17)]⟩, ⟨[5, 1], [], [6], [(.slot 18)]⟩, ⟨[4, 6], [], [7], [(.slot 19)]⟩, ⟨[7], [], [8], [(.slot 4)]⟩]) (es' := [(_, _), (_, _), (4, .v (.int .i64 v3))]) (by kernel_rfl) rfl rfl
      ⟨st_plain rfl (op_fieldAddr _ _ _ _ 2 0 _ Try.underlying52 rfl sz3 rfl rfl (by decide)),
        st_plain rfl (op_load _ _ _ _ _ _ Try.underlying3 rfl rfl rfl (Nat.le_of_ble_eq_true rfl) rfl rfl rfl),
        st_plain rfl (op_fieldAddr _ _ _ _ 2 0 _ Try.underlying52 rfl sz3 rfl rfl (by decide)),
        st_plain rfl (op_load _ _ _ _ _ _ Try.underlying3 rfl rfl rfl (Nat.le_of_ble_eq_true rfl) rfl rfl rfl),
        st_plain rfl (op_bin _ _ _ _ _ rfl rfl (ibind (f := Value.int .i64) (Option.some.inj hv3))),
        st_plain rfl (op_assign _ _ _ _ rfl rfl),
        trivial⟩ ?_
    refine pt_then ?_
    refine ht_seq ?_
    refine ht_seqR hn (El := [_, _, _, (6, .v (.int .i64 1))]) (init := [0, 1, 2]) (fin := [0, 1, 2, 3]) (sps := [⟨[], [], [3], [(.slot 6)]⟩]) (es' := [(_, _), (_, _), (_, _), (6, .v (.int .i64 1))]) (by kernel_rfl) rfl rfl
      ⟨st_plain rfl (op_assign _ _ _ _ rfl rfl),
        trivial⟩ ?_
    refine pt_then ?_
    refine ht_seq ?_
    refine ht_seq ?_
    obtain ⟨v4, hv4, h⟩ := bind_some h
    refine ht_seqR hn (El := [_, _, _, _, (20, .v (.int .i64 sym)), (21, .ptr 2 1), (22, .v (.int .i64 s.singles)), (23, .v (.int .i64 v4)), (1, .v (.int .i64 v4))]) (init := [0, 1, 2, 3]) (fin := [1, 2, 3, 8]) (sps := [⟨[0], [], [4], [(.slot 20)]⟩, ⟨[1], [], [5], [(.slot 21)]⟩, ⟨[5, 1], [], [6], [(.slot 22)]⟩, ⟨[4, 6], [], [7], [(.slot 23)]⟩, ⟨[7], [0], [8], [(.slot 1)]⟩]) (es' := [(_, _), (_, _), (_, _), (1, .v (.int .i64 v4))]) (by kernel_rfl) rfl rfl
      ⟨st_plain rfl (op_move _ _ _ _ rfl rfl),
        st_plain rfl (op_fieldAddr _ _ _ _ 2 0 _ Try.underlying52 rfl sz3 rfl rfl (by decide)),
        st_plain rfl (op_load _ _ _ _ _ _ Try.underlying3 rfl rfl rfl (Nat.le_of_ble_eq_true rfl) rfl rfl rfl),
        st_plain rfl (op_bin _ _ _ _ _ rfl rfl (ibind (f := Value.int .i64) (Option.some.inj hv4))),
        st_plain rfl (LOp.drop [_] (op_assign _ _ _ _ rfl rfl)),
        trivial⟩ ?_
    refine pt_then ?_
    refine ht_loopS h (fun ((s14, s15, s16) : Int × Int × Int) => [(2, .box 52 [.v (.int .i64 s.least), .v (.int .i64 s.singles), .v (.int .i64 s.group)]), (4, .v (.int .i64 s14)), (6, .v (.int .i64 s15)), (1, .v (.int .i64 s16))]) (fun ((s18, s19, s20) : Int × Int × Int) => [(4, .v (.int .i64 s18)), (6, .v (.int .i64 s19)), (1, .v (.int .i64 s20))]) ?_ ?_
    · rintro ⟨s18, s19, s20⟩ h
      refine pt_then ?_
      refine ht_seq ?_
      obtain ⟨v28, hv28, h⟩ := bind_some h
      obtain ⟨v29, hv29, h⟩ := bind_some h
      refine ht_seqR hn (El := [_, _, _, (40, .v (.int .i64 s18)), (41, .v (.int .i64 s20)), (42, .v (.int .i64 s19)), (43, .v (.int .i64 v28)), (44, .v (.int .i64 v29)), (45, .v (.int .i64 s19)), (4, .v (.int .i64 v29)), (5, .v (.int .i64 s19))]) (init := [0, 1, 2]) (fin := [9, 10]) (sps := [⟨[0], [], [3], [(.slot 40)]⟩, ⟨[2], [], [4], [(.slot 41)]⟩, ⟨[1], [], [5], [(.slot 42)]⟩, ⟨[4, 5], [], [6], [(.slot 43)]⟩, ⟨[3, 6], [], [7], [(.slot 44)]⟩, ⟨[1], [], [8], [(.slot 45)]⟩, ⟨[7], [0], [9], [(.slot 4)]⟩, ⟨[8], [], [10], [(.slot 5)]⟩]) (es' := [(4, .v (.int .i64 v29)), (5, .v (.int .i64 s19))]) (by kernel_rfl) rfl rfl
        ⟨st_plain rfl (op_move _ _ _ _ rfl rfl),
          st_plain rfl (op_move _ _ _ _ rfl rfl),
          st_plain rfl (op_move _ _ _ _ rfl rfl),
          st_plain rfl (op_bin _ _ _ _ _ rfl rfl (shl_ok hv28)),
          st_plain rfl (op_bin _ _ _ _ _ rfl rfl (ibind (f := Value.int .i64) (Option.some.inj hv29))),
          st_plain rfl (op_move _ _ _ _ rfl rfl),
          st_plain rfl (LOp.drop [_] (op_assign _ _ _ _ rfl rfl)),
          st_plain rfl (op_assign _ _ _ _ rfl rfl),
          trivial⟩ ?_
      refine pt_then ?_
      refine ht_ret ?_
      obtain rfl := Option.some.inj h
      exact pt_ret hio rfl (.tmp _ _ (.tmp _ _ .nil)) rfl rfl
    · rintro u21 hl22 hr23 ⟨s14, s15, s16⟩ rr26 h ho24
      refine ht_seq ?_
      refine ht_seq ?_
      refine ht_seqR hn (El := [_, _, _, _, (24, .v (.int .i64 s16)), (25, .ptr 2 2), (26, .v (.int .i64 s.group)), (27, .v (.bool ((decide (s.group ≤ s16)))))]) (init := [0, 1, 2, 3]) (fin := [0, 1, 2, 3, 7]) (sps := [⟨[3], [], [4], [(.slot 24)]⟩, ⟨[0], [], [5], [(.slot 25)]⟩, ⟨[5, 0], [], [6], [(.slot 26)]⟩, ⟨[4, 6], [], [7], [(.slot 27)]⟩]) (es' := [(_, _), (_, _), (_, _), (_, _), (27, .v (.bool ((decide (s.group ≤ s16)))))]) (by kernel_rfl) rfl rfl
        ⟨st_plain rfl (op_move _ _ _ _ rfl rfl),
          st_plain rfl (op_fieldAddr _ _ _ _ 2 0 _ Try.underlying52 rfl sz3 rfl rfl (by decide)),
          st_plain rfl (op_load _ _ _ _ _ _ Try.underlying3 rfl rfl rfl (Nat.le_of_ble_eq_true rfl) rfl rfl rfl),
          st_plain rfl (op_bin _ _ _ _ _ rfl rfl rfl),
          trivial⟩ ?_
      refine pt_then ?_
      refine ht_cond _ rfl (fun hb27 => ?_) (fun hb27 => ?_)
      · have h := cond_t hb27 h
        refine ht_skip ?_
        refine pt_then ?_
        refine ht_seq ?_
        refine ht_block ?_
        refine ht_seq ?_
        obtain ⟨v6, hv6, h⟩ := bind_some h
        obtain ⟨v7, hv7, h⟩ := bind_some h
        refine ht_seqR hn (El := [_, _, _, _, _, (32, .v (.int .i64 s14)), (33, .ptr 2 2), (34, .v (.int .i64 s.group)), (35, .v (.int .i64 s15)), (36, .v (.int .i64 v6)), (37, .v (.int .i64 v7)), (4, .v (.int .i64 v7))]) (init := [0, 1, 2, 3, 4]) (fin := [0, 2, 3, 11]) (sps := [⟨[1], [], [5], [(.slot 32)]⟩, ⟨[0], [], [6], [(.slot 33)]⟩, ⟨[6, 0], [], [7], [(.slot 34)]⟩, ⟨[2], [], [8], [(.slot 35)]⟩, ⟨[7, 8], [], [9], [(.slot 36)]⟩, ⟨[5, 9], [], [10], [(.slot 37)]⟩, ⟨[10], [1], [11], [(.slot 4)]⟩]) (es' := [(_, _), (_, _), (_, _), (4, .v (.int .i64 v7))]) (by kernel_rfl) rfl rfl
          ⟨st_plain rfl (op_move _ _ _ _ rfl rfl),
            st_plain rfl (op_fieldAddr _ _ _ _ 2 0 _ Try.underlying52 rfl sz3 rfl rfl (by decide)),
            st_plain rfl (op_load _ _ _ _ _ _ Try.underlying3 rfl rfl rfl (Nat.le_of_ble_eq_true rfl) rfl rfl rfl),
            st_plain rfl (op_move _ _ _ _ rfl rfl),
            st_plain rfl (op_bin _ _ _ _ _ rfl rfl (shl_ok hv6)),
            st_plain rfl (op_bin _ _ _ _ _ rfl rfl (ibind (f := Value.int .i64) (Option.some.inj hv7))),
            st_plain rfl (LOp.drop [_] (op_assign _ _ _ _ rfl rfl)),
            trivial⟩ ?_
        refine pt_then ?_
        obtain ⟨v8, hv8, h⟩ := bind_some h
        refine ht_seqR hn (El := [_, _, _, _, (38, .v (.int .i64 s15)), (39, .v (.int .i64 v8)), (6, .v (.int .i64 v8))]) (init := [0, 1, 2, 3]) (fin := [0, 2, 3, 6]) (sps := [⟨[1], [], [4], [(.slot 38)]⟩, ⟨[4], [], [5], [(.slot 39)]⟩, ⟨[5], [1], [6], [(.slot 6)]⟩]) (es' := [(_, _), (_, _), (_, _), (6, .v (.int .i64 v8))]) (by kernel_rfl) rfl rfl
          ⟨st_plain rfl (op_move _ _ _ _ rfl rfl),
            st_plain rfl (op_bin _ _ _ _ _ rfl rfl (ibind (f := Value.int .i64) (Option.some.inj hv8))),
            st_plain rfl (LOp.drop [_] (op_assign _ _ _ _ rfl rfl)),
            trivial⟩ ?_
        refine pt_inb ?_
        refine pt_then ?_
        obtain ⟨v9, hv9, h⟩ := bind_some h
        refine ht_seqR hn (El := [_, _, _, _, (28, .v (.int .i64 s16)), (29, .ptr 2 2), (30, .v (.int .i64 s.group)), (31, .v (.int .i64 v9)), (1, .v (.int .i64 v9))]) (init := [0, 1, 2, 3]) (fin := [0, 2, 3, 8]) (sps := [⟨[1], [], [4], [(.slot 28)]⟩, ⟨[0], [], [5], [(.slot 29)]⟩, ⟨[5, 0], [], [6], [(.slot 30)]⟩, ⟨[4, 6], [], [7], [(.slot 31)]⟩, ⟨[7], [1], [8], [(.slot 1)]⟩]) (es' := [(_, _), (_, _), (_, _), (1, .v (.int .i64 v9))]) (by kernel_rfl) rfl rfl
          ⟨st_plain rfl (op_move _ _ _ _ rfl rfl),
            st_plain rfl (op_fieldAddr _ _ _ _ 2 0 _ Try.underlying52 rfl sz3 rfl rfl (by decide)),
            st_plain rfl (op_load _ _ _ _ _ _ Try.underlying3 rfl rfl rfl (Nat.le_of_ble_eq_true rfl) rfl rfl rfl),
            st_plain rfl (op_bin _ _ _ _ _ rfl rfl (ibind (f := Value.int .i64) (Option.some.inj hv9))),
            st_plain rfl (LOp.drop [_] (op_assign _ _ _ _ rfl rfl)),
            trivial⟩ ?_
        exact pt_next _ (Option.some.inj h).symm rfl
      · have h := cond_f hb27 h
        refine ht_exit ?_
        refine pt_x_then ?_
        refine pt_x_then ?_
        refine pt_x_in ?_
        refine pt_pick [1, 2, 3] (by kernel_rfl) (es' := [(_, _), (_, _), (_, _)]) rfl ?_
        exact hl22 _ (ho24 _ (Option.some.inj h).symm).symm

set_option maxHeartbeats 1000000 in
theorem ok_sym_scale_find (s : T_sym_scale) (n : Int) (r : (Int × Int × Int)) (h : Sh.sym_scale_find s n = some r) : FnOK Try.prog 29 [.agg [.v (.int .i64 s.least), .v (.int .i64 s.singles), .v (.int .i64 s.group)], .v (.int .i64 n)] (.tup [.v (.int .i64 r.1), .v (.int .i64 r.2.1), .v (.int .i64 r.2.2)]) := by
  unfold Sh.sym_scale_find at h
  refine fn_ok Try.func29 rfl (Nat.le_of_ble_eq_true rfl) rfl rfl fun g0 hn hio => ?_
  refine ht_seq ?_
  refine ht_seqR hn (El := [_, _, (2, .box 52 [.v (.int .i64 s.least), .v (.int .i64 s.singles), .v (.int .i64 s.group)]), (4, .v (.int .i64 0)), (5, .v (.int .i64 0)), (6, .v (.int .i64 0))]) (init := [0, 1]) (fin := [1, 2, 3]) (sps := [⟨[0], [], [2], [(.slot 2)]⟩, ⟨[], [], [3], [(.slot 4)]⟩, ⟨[], [], [4], [(.slot 5)]⟩, ⟨[], [], [5], [(.slot 6)]⟩]) (es' := [(_, _), (2, .box 52 [.v (.int .i64 s.least), .v (.int .i64 s.singles), .v (.int .i64 s.group)]), (4, .v (.int .i64 0))]) (by kernel_rfl) rfl rfl
    ⟨st_plain rfl (op_box _ _ _ _ rfl rfl rfl),
      st_plain rfl (op_assign _ _ _ _ rfl rfl),
      st_plain rfl (op_assign _ _ _ _ rfl rfl),
      st_plain rfl (op_assign _ _ _ _ rfl rfl),
      trivial⟩ ?_
  refine pt_then ?_
  refine ht_loopS h (fun (s9 : Int) => [(1, .v (.int .i64 n)), (2, .box 52 [.v (.int .i64 s.least), .v (.int .i64 s.singles), .v (.int .i64 s.group)]), (4, .v (.int .i64 s9))]) (fun (() : Unit) => []) ?_ ?_
  · rintro ⟨⟩ h
    cases h
  · rintro u11 hl12 hr13 s9 rr16 h ho14
    refine ht_block ?_
    refine ht_seq ?_
    obtain ⟨v1, hv1, h⟩ := bind_some h
    refine ht_seqR hn (El := [_, _, _, (10, .agg [.v (.int .i64 s.least), .v (.int .i64 s.singles), .v (.int .i64 s.group)]), (11, .v (.int .i64 s9)), (12, .tup [.v (.int .i64 v1.1), .v (.int .i64 v1.2)]), (9, .tup [.v (.int .i64 v1.1), .v (.int .i64 v1.2)]), (13, .v (.int .i64 v1.1)), (14, .v (.int .i64 v1.2)), (7, .v (.int .i64 v1.1)), (8, .v (.int .i64 v1.2))]) (init := [0, 1, 2]) (fin := [0, 1, 2, 9, 10]) (sps := [⟨[1], [], [3], [(.slot 10)]⟩, ⟨[2], [], [4], [(.slot 11)]⟩, ⟨[3, 4], [], [5], [(.slot 12)]⟩, ⟨[], [5], [6], [(.slot 9)]⟩, ⟨[6], [], [7], [(.slot 13)]⟩, ⟨[6], [], [8], [(.slot 14)]⟩, ⟨[7], [], [9], [(.slot 7)]⟩, ⟨[8], [], [10], [(.slot 8)]⟩]) (es' := [(_, _), (_, _), (_, _), (7, .v (.int .i64 v1.1)), (8, .v (.int .i64 v1.2))]) (by kernel_rfl) rfl rfl
      ⟨st_plain rfl (op_loadA _ _ _ _ _ _ _ Try.underlying52 rfl sz52 rfl rfl (Nat.le_of_ble_eq_true rfl) rfl rfl),
        st_plain rfl (op_move _ _ _ _ rfl rfl),
        st_plain rfl (op_call _ _ 33 _ _ rfl Try.call33 rfl (ok_sym_scale_symbol s s9 _ hv1) rfl rfl),
        st_plain rfl (op_move_take _ _ _ _ rfl),
        st_plain rfl (op_extract _ _ _ _ _ rfl rfl (Nat.le_of_ble_eq_true rfl) rfl rfl),
        st_plain rfl (op_extract _ _ _ _ _ rfl rfl (Nat.le_of_ble_eq_true rfl) rfl rfl),
        st_plain rfl (op_assign _ _ _ _ rfl rfl),
        st_plain rfl (op_assign _ _ _ _ rfl rfl),
        trivial⟩ ?_
    refine pt_then ?_
    refine ht_seq ?_
    refine ht_seq ?_
    obtain ⟨v2, hv2, h⟩ := bind_some h
    obtain ⟨v3, hv3, h⟩ := bind_some h
    refine ht_seqR hn (El := [_, _, _, _, _, (15, .v (.int .i64 n)), (16, .v (.int .i64 v1.1)), (17, .v (.int .i64 v2)), (18, .v (.int .i64 v1.2)), (19, .v (.int .i64 v3)), (20, .v (.bool ((decide (v2 < v3)))))]) (init := [0, 1, 2, 3, 4]) (fin := [0, 1, 2, 3, 4, 10]) (sps := [⟨[0], [], [5], [(.slot 15)]⟩, ⟨[3], [], [6], [(.slot 16)]⟩, ⟨[5, 6], [], [7], [(.slot 17)]⟩, ⟨[4], [], [8], [(.slot 18)]⟩, ⟨[8], [], [9], [(.slot 19)]⟩, ⟨[7, 9], [], [10], [(.slot 20)]⟩]) (es' := [(_, _), (_, _), (_, _), (_, _), (_, _), (20, .v (.bool ((decide (v2 < v3)))))]) (by kernel_rfl) rfl rfl
      ⟨st_plain rfl (op_move _ _ _ _ rfl rfl),
        st_plain rfl (op_move _ _ _ _ rfl rfl),
        st_plain rfl (op_bin _ _ _ _ _ rfl rfl (ibind (f := Value.int .i64) (Option.some.inj hv2))),
        st_plain rfl (op_move _ _ _ _ rfl rfl),
        st_plain rfl (op_bin _ _ _ _ _ rfl rfl (shl_ok hv3)),
        st_plain rfl (op_bin _ _ _ _ _ rfl rfl rfl),
        trivial⟩ ?_
    refine pt_then ?_
    refine ht_cond _ rfl (fun hb17 => ?_) (fun hb17 => ?_)
    · have h := cond_t hb17 h
      refine ht_seq ?_
      obtain ⟨v5, hv5, h⟩ := bind_some h
      refine ht_seqR hn (El := [_, _, _, _, _, _, (21, .v (.int .i64 s9)), (22, .v (.int .i64 v1.2)), (23, .v (.int .i64 n)), (24, .v (.int .i64 v1.1)), (25, .v (.int .i64 v5)), (4, .v (.int .i64 s9)), (5, .v (.int .i64 v1.2)), (6, .v (.int .i64 v5))]) (init := [0, 1, 2, 3, 4, 5]) (fin := [11, 12, 13]) (sps := [⟨[2], [], [6], [(.slot 21)]⟩, ⟨[4], [], [7], [(.slot 22)]⟩, ⟨[0], [], [8], [(.slot 23)]⟩, ⟨[3], [], [9], [(.slot 24)]⟩, ⟨[8, 9], [], [10], [(.slot 25)]⟩, ⟨[6], [2], [11], [(.slot 4)]⟩, ⟨[7], [], [12], [(.slot 5)]⟩, ⟨[10], [], [13], [(.slot 6)]⟩]) (es' := [(4, .v (.int .i64 s9)), (5, .v (.int .i64 v1.2)), (6, .v (.int .i64 v5))]) (by kernel_rfl) rfl rfl
        ⟨st_plain rfl (op_move _ _ _ _ rfl rfl),
          st_plain rfl (op_move _ _ _ _ rfl rfl),
          st_plain rfl (op_move _ _ _ _ rfl rfl),
          st_plain rfl (op_move _ _ _ _ rfl rfl),
          st_plain rfl (op_bin _ _ _ _ _ rfl rfl (ibind (f := Value.int .i64) (Option.some.inj hv5))),
          st_plain rfl (LOp.drop [_] (op_assign _ _ _ _ rfl rfl)),
          st_plain rfl (op_assign _ _ _ _ rfl rfl),
          st_plain rfl (op_assign _ _ _ _ rfl rfl),
          trivial⟩ ?_
      refine pt_then ?_
      refine ht_ret ?_
      refine pt_r_then ?_
      refine pt_r_in ?_
      refine pt_r_then ?_
      refine pt_r_in ?_
      have h := hr13 _ (ho14 _ (Option.some.inj h).symm).symm
      obtain rfl := Option.some.inj h
      exact pt_ret hio rfl (.tmp _ _ (.tmp _ _ (.tmp _ _ .nil))) rfl rfl
    · have h := cond_f hb17 h
      refine ht_skip ?_
      refine pt_then ?_
      obtain ⟨v6, hv6, h⟩ := bind_some h
      refine ht_seqR hn (El := [_, _, _, _, _, _, (26, .v (.int .i64 s9)), (27, .v (.int .i64 v6)), (4, .v (.int .i64 v6))]) (init := [0, 1, 2, 3, 4, 5]) (fin := [0, 1, 8]) (sps := [⟨[2], [], [6], [(.slot 26)]⟩, ⟨[6], [], [7], [(.slot 27)]⟩, ⟨[7], [2], [8], [(.slot 4)]⟩]) (es' := [(_, _), (_, _), (4, .v (.int .i64 v6))]) (by kernel_rfl) rfl rfl
        ⟨st_plain rfl (op_move _ _ _ _ rfl rfl),
          st_plain rfl (op_bin _ _ _ _ _ rfl rfl (ibind (f := Value.int .i64) (Option.some.inj hv6))),
          st_plain rfl (LOp.drop [_] (op_assign _ _ _ _ rfl rfl)),
          trivial⟩ ?_
      refine pt_inb ?_
      exact pt_next _ (Option.some.inj h).symm rfl

set_option maxHeartbeats 1000000 in
theorem ok_sym_Len (n : Int) (r : (Int × Int × Int × Int)) (h : Sh.sym_Len n = some r) : FnOK Try.prog 9 [.v (.int .i64 n)] (.tup [.v (.int .i64 r.1), .v (.int .i64 r.2.1), .v (.int .i64 r.2.2.1), .v (.int .i64 r.2.2.2)]) := by
  unfold Sh.sym_Len at h
  refine fn_ok Try.func9 rfl (Nat.le_of_ble_eq_true rfl) rfl rfl fun g0 hn hio => ?_
  refine ht_seq ?_
  refine ht_seqR hn (El := [_, (2, .v (.int .i64 0)), (3, .v (.int .i64 0)), (4, .v (.int .i64 0)), (5, .v (.int .i64 0))]) (init := [0]) (fin := [0]) (sps := [⟨[], [], [1], [(.slot 2)]⟩, ⟨[], [], [2], [(.slot 3)]⟩, ⟨[], [], [3], [(.slot 4)]⟩, ⟨[], [], [4], [(.slot 5)]⟩]) (es' := [(_, _)]) (by kernel_rfl) rfl rfl
    ⟨st_plain rfl (op_assign _ _ _ _ rfl rfl),
      st_plain rfl (op_assign _ _ _ _ rfl rfl),
      st_plain rfl (op_assign _ _ _ _ rfl rfl),
      st_plain rfl (op_assign _ _ _ _ rfl rfl),
      trivial⟩ ?_
  refine pt_then ?_
  refine ht_seq ?_
  refine ht_seq ?_
  refine ht_joinS h (fun (s1 : Bool) => [(0, .v (.int .i64 n)), (11, .v (.bool s1))]) ?_ ?_
  · rintro s1 h
    refine pt_then ?_
    refine ht_cond _ rfl (fun hb5 => ?_) (fun hb5 => ?_)
    · have h := cond_t hb5 h
      refine ht_seq ?_
      refine ht_seqR hn (El := [_, _, (2, .v (.int .i64 0)), (3, .v (.int .i64 0)), (4, .v (.int .i64 0)), (5, .v (.int .i64 1))]) (init := [0, 1]) (fin := [2, 3, 4, 5]) (sps := [⟨[], [], [2], [(.slot 2)]⟩, ⟨[], [], [3], [(.slot 3)]⟩, ⟨[], [], [4], [(.slot 4)]⟩, ⟨[], [], [5], [(.slot 5)]⟩]) (es' := [(2, .v (.int .i64 0)), (3, .v (.int .i64 0)), (4, .v (.int .i64 0)), (5, .v (.int .i64 1))]) (by kernel_rfl) rfl rfl
        ⟨st_plain rfl (op_assign _ _ _ _ rfl rfl),
          st_plain rfl (op_assign _ _ _ _ rfl rfl),
          st_plain rfl (op_assign _ _ _ _ rfl rfl),
          st_plain rfl (op_assign _ _ _ _ rfl rfl),
          trivial⟩ ?_
      refine pt_then ?_
      refine ht_ret ?_
      refine pt_r_then ?_
      obtain rfl := Option.some.inj h
      exact pt_ret hio rfl (.tmp _ _ (.tmp _ _ (.tmp _ _ (.tmp _ _ .nil)))) rfl rfl
    · have h := cond_f hb5 h
      refine ht_skip ?_
      refine pt_then ?_
      refine ht_seq ?_
      refine ht_seq ?_
      refine ht_seqR hn (El := [_, _, (12, .v (.int .i64 n)), (13, .v (.bool (n == 258)))]) (init := [0, 1]) (fin := [0, 3]) (sps := [⟨[0], [], [2], [(.slot 12)]⟩, ⟨[2], [], [3], [(.slot 13)]⟩]) (es' := [(_, _), (13, .v (.bool (n == 258)))]) (by kernel_rfl) rfl rfl
        ⟨st_plain rfl (op_move _ _ _ _ rfl rfl),
          st_plain rfl (op_bin _ _ _ _ _ rfl rfl rfl),
          trivial⟩ ?_
      refine pt_then ?_
      refine ht_cond _ rfl (fun hb6 => ?_) (fun hb6 => ?_)
      · have h := cond_t hb6 h
        refine ht_seq ?_
        refine ht_seqR hn (El := [_, _, (2, .v (.int .i64 285)), (3, .v (.int .i64 0)), (4, .v (.int .i64 0)), (5, .v (.int .i64 0))]) (init := [0, 1]) (fin := [2, 3, 4, 5]) (sps := [⟨[], [], [2], [(.slot 2)]⟩, ⟨[], [], [3], [(.slot 3)]⟩, ⟨[], [], [4], [(.slot 4)]⟩, ⟨[], [], [5], [(.slot 5)]⟩]) (es' := [(2, .v (.int .i64 285)), (3, .v (.int .i64 0)), (4, .v (.int .i64 0)), (5, .v (.int .i64 0))]) (by kernel_rfl) rfl rfl
          ⟨st_plain rfl (op_assign _ _ _ _ rfl rfl),
            st_plain rfl (op_assign _ _ _ _ rfl rfl),
            st_plain rfl (op_assign _ _ _ _ rfl rfl),
            st_plain rfl (op_assign _ _ _ _ rfl rfl),
            trivial⟩ ?_
        refine pt_then ?_
        refine ht_ret ?_
        refine pt_r_then ?_
        obtain rfl := Option.some.inj h
        exact pt_ret hio rfl (.tmp _ _ (.tmp _ _ (.tmp _ _ (.tmp _ _ .nil)))) rfl rfl
      · have h := cond_f hb6 h
        refine ht_skip ?_
        refine pt_then ?_
        refine ht_seq ?_
        obtain ⟨v7, hv7, h⟩ := bind_some h
        obtain ⟨v8, hv8, h⟩ := bind_some h
        refine ht_seqR hn (El := [_, _, (15, .agg [.v (.int .i64 v7.least), .v (.int .i64 v7.singles), .v (.int .i64 v7.group)]), (16, .v (.int .i64 n)), (17, .tup [.v (.int .i64 v8.1), .v (.int .i64 v8.2.1), .v (.int .i64 v8.2.2)]), (14, .tup [.v (.int .i64 v8.1), .v (.int .i64 v8.2.1), .v (.int .i64 v8.2.2)]), (18, .v (.int .i64 v8.1)), (19, .v (.int .i64 v8.2.1)), (20, .v (.int .i64 v8.2.2)), (2, .v (.int .i64 v8.1)), (3, .v (.int .i64 v8.2.1)), (4, .v (.int .i64 v8.2.2))]) (init := [0, 1]) (fin := [9, 10, 11]) (sps := [⟨[], [], [2], [(.slot 15)]⟩, ⟨[0], [], [3], [(.slot 16)]⟩, ⟨[2, 3], [], [4], [(.slot 17)]⟩, ⟨[], [4], [5], [(.slot 14)]⟩, ⟨[5], [], [6], [(.slot 18)]⟩, ⟨[5], [], [7], [(.slot 19)]⟩, ⟨[5], [], [8], [(.slot 20)]⟩, ⟨[6], [], [9], [(.slot 2)]⟩, ⟨[7], [], [10], [(.slot 3)]⟩, ⟨[8], [], [11], [(.slot 4)]⟩]) (es' := [(2, .v (.int .i64 v8.1)), (3, .v (.int .i64 v8.2.1)), (4, .v (.int .i64 v8.2.2))]) (by kernel_rfl) rfl rfl
          ⟨st_plain rfl (op_call _ _ 28 _ _ rfl Try.call28 rfl (ok_sym_lens  _ hv7) rfl rfl),
            st_plain rfl (op_move _ _ _ _ rfl rfl),
            st_plain rfl (op_call _ _ 29 _ _ rfl Try.call29 rfl (ok_sym_scale_find v7 n _ hv8) rfl rfl),
            st_plain rfl (op_move_take _ _ _ _ rfl),
            st_plain rfl (op_extract _ _ _ _ _ rfl rfl (Nat.le_of_ble_eq_true rfl) rfl rfl),
            st_plain rfl (op_extract _ _ _ _ _ rfl rfl (Nat.le_of_ble_eq_true rfl) rfl rfl),
            st_plain rfl (op_extract _ _ _ _ _ rfl rfl (Nat.le_of_ble_eq_true rfl) rfl rfl),
            st_plain rfl (op_assign _ _ _ _ rfl rfl),
            st_plain rfl (op_assign _ _ _ _ rfl rfl),
            st_plain rfl (op_assign _ _ _ _ rfl rfl),
            trivial⟩ ?_
        refine pt_then ?_
        refine ht_seq ?_
        obtain ⟨v9, hv9, h⟩ := bind_some h
        refine ht_seqR hn (El := [_, _, _, (21, .v (.int .i64 v8.1)), (22, .v (.int .i64 v9)), (23, .v (.int .i64 v8.2.1)), (24, .v (.int .i64 v8.2.2)), (2, .v (.int .i64 v9)), (3, .v (.int .i64 v8.2.1)), (4, .v (.int .i64 v8.2.2)), (5, .v (.int .i64 0))]) (init := [0, 1, 2]) (fin := [7, 8, 9, 10]) (sps := [⟨[0], [], [3], [(.slot 21)]⟩, ⟨[3], [], [4], [(.slot 22)]⟩, ⟨[1], [], [5], [(.slot 23)]⟩, ⟨[2], [], [6], [(.slot 24)]⟩, ⟨[4], [0], [7], [(.slot 2)]⟩, ⟨[5], [1], [8], [(.slot 3)]⟩, ⟨[6], [2], [9], [(.slot 4)]⟩, ⟨[], [], [10], [(.slot 5)]⟩]) (es' := [(2, .v (.int .i64 v9)), (3, .v (.int .i64 v8.2.1)), (4, .v (.int .i64 v8.2.2)), (5, .v (.int .i64 0))]) (by kernel_rfl) rfl rfl
          ⟨st_plain rfl (op_move _ _ _ _ rfl rfl),
            st_plain rfl (op_bin _ _ _ _ _ rfl rfl (ibind (f := Value.int .i64) (Option.some.inj hv9))),
            st_plain rfl (op_move _ _ _ _ rfl rfl),
            st_plain rfl (op_move _ _ _ _ rfl rfl),
            st_plain rfl (LOp.drop [_] (op_assign _ _ _ _ rfl rfl)),
            st_plain rfl (LOp.drop [_] (op_assign _ _ _ _ rfl rfl)),
            st_plain rfl (LOp.drop [_] (op_assign _ _ _ _ rfl rfl)),
            st_plain rfl (op_assign _ _ _ _ rfl rfl),
            trivial⟩ ?_
        refine pt_then ?_
        refine ht_ret ?_
        obtain rfl := Option.some.inj h
        exact pt_ret hio rfl (.tmp _ _ (.tmp _ _ (.tmp _ _ (.tmp _ _ .nil)))) rfl rfl
  · intro u2 h hl3 hr4
    refine cond_some h (fun hg1_2 h => ?_) (fun hg1_2 h => ?_)
    · refine ht_seqR hn (El := [_, (6, .v (.int .i64 n)), (7, .v (.bool ((decide (n < 3))))), (8, .v (.bool true)), (9, .v undef), (10, .v undef), (11, .v (.bool true))]) (init := [0]) (fin := [0, 6]) (sps := [⟨[0], [], [1], [(.slot 6)]⟩, ⟨[1], [], [2], [(.slot 7)]⟩, ⟨[2], [], [3], [(.slot 8)]⟩, ⟨[3], [], [4], [(.slot 9)]⟩, ⟨[3], [], [5], [(.slot 10)]⟩, ⟨[3], [], [6], [(.slot 11)]⟩]) (es' := [(_, _), (11, .v (.bool true))]) (by kernel_rfl) rfl rfl
        ⟨st_plain rfl (op_move _ _ _ _ rfl rfl),
          st_plain rfl (op_bin _ _ _ _ _ rfl rfl rfl),
          st_plain rfl (op_move _ _ _ _ (congrArg (fun b => AV.v (Value.bool b)) hg1_2) rfl),
          st_skip 2 8 _ false rfl rfl rfl rfl (List.Mem.head _),
          st_skip 2 8 _ false rfl rfl rfl rfl (List.Mem.head _),
          st_plain rfl (op_pick _ _ true _ rfl rfl),
          trivial⟩ ?_
      exact hl3 _ (Option.some.inj h).symm
    · refine ht_seqR hn (El := [_, (6, .v (.int .i64 n)), (7, .v (.bool ((decide (n < 3))))), (8, .v (.bool false)), (9, .v (.int .i64 n)), (10, .v (.bool ((decide (258 < n))))), (11, .v (.bool ((decide (258 < n)))))]) (init := [0]) (fin := [0, 6]) (sps := [⟨[0], [], [1], [(.slot 6)]⟩, ⟨[1], [], [2], [(.slot 7)]⟩, ⟨[2], [], [3], [(.slot 8)]⟩, ⟨[3, 0], [], [4], [(.slot 9)]⟩, ⟨[3, 4], [], [5], [(.slot 10)]⟩, ⟨[3, 5], [], [6], [(.slot 11)]⟩]) (es' := [(_, _), (11, .v (.bool ((decide (258 < n)))))]) (by kernel_rfl) rfl rfl
        ⟨st_plain rfl (op_move _ _ _ _ rfl rfl),
          st_plain rfl (op_bin _ _ _ _ _ rfl rfl rfl),
          st_plain rfl (op_move _ _ _ _ (congrArg (fun b => AV.v (Value.bool b)) hg1_2) rfl),
          st_run 2 8 false rfl rfl rfl (List.Mem.head _) (op_move _ _ _ _ rfl rfl),
          st_run 2 8 false rfl rfl rfl (List.Mem.head _) (op_bin _ _ _ _ _ rfl rfl rfl),
          st_plain rfl (op_pick _ _ false _ rfl rfl),
          trivial⟩ ?_
      exact hl3 _ (Option.some.inj h).symm

set_option maxHeartbeats 1000000 in
theorem ok_wherryref01_in (n : Int) (lo : Int) (hi : Int) (r : Bool) (h : Sh.wherryref01_in n lo hi = some r) : FnOK Try.prog 30 [.v (.int .i64 n), .v (.int .i64 lo), .v (.int .i64 hi)] (.v (.bool r)) := by
  unfold Sh.wherryref01_in at h
  refine fn_ok Try.func30 rfl (Nat.le_of_ble_eq_true rfl) rfl rfl fun g0 hn hio => ?_
  refine ht_seq ?_
  refine ht_seqR hn (El := [_, _, _, (6, .v (.bool false))]) (init := [0, 1, 2]) (fin := [0, 1, 2]) (sps := [⟨[], [], [3], [(.slot 6)]⟩]) (es' := [(_, _), (_, _), (_, _)]) (by kernel_rfl) rfl rfl
    ⟨st_plain rfl (op_assign _ _ _ _ rfl rfl),
      trivial⟩ ?_
  refine pt_then ?_
  refine ht_seq ?_
  refine ht_joinS h (fun (s1 : Bool) => [(6, .v (.bool s1))]) ?_ ?_
  · rintro s1 h
    refine pt_then ?_
    refine ht_ret ?_
    obtain rfl := Option.some.inj h
    exact pt_ret hio rfl (.tmp _ _ .nil) rfl rfl
  · intro u2 h hl3 hr4
    refine cond_some h (fun hg1_3 h => ?_) (fun hg1_3 h => ?_)
    · refine ht_seqR hn (El := [_, _, _, (7, .v (.int .i64 n)), (8, .v (.int .i64 lo)), (9, .v (.bool ((decide (lo ≤ n))))), (10, .v (.bool true)), (11, .v (.int .i64 n)), (12, .v (.int .i64 hi)), (13, .v (.bool ((decide (n ≤ hi))))), (14, .v (.bool ((decide (n ≤ hi))))), (6, .v (.bool ((decide (n ≤ hi)))))]) (init := [0, 1, 2]) (fin := [11]) (sps := [⟨[0], [], [3], [(.slot 7)]⟩, ⟨[1], [], [4], [(.slot 8)]⟩, ⟨[3, 4], [], [5], [(.slot 9)]⟩, ⟨[5], [], [6], [(.slot 10)]⟩, ⟨[6, 0], [], [7], [(.slot 11)]⟩, ⟨[6, 2], [], [8], [(.slot 12)]⟩, ⟨[6, 7, 8], [], [9], [(.slot 13)]⟩, ⟨[6, 9], [], [10], [(.slot 14)]⟩, ⟨[10], [], [11], [(.slot 6)]⟩]) (es' := [(6, .v (.bool ((decide (n ≤ hi)))))]) (by kernel_rfl) rfl rfl
        ⟨st_plain rfl (op_move _ _ _ _ rfl rfl),
          st_plain rfl (op_move _ _ _ _ rfl rfl),
          st_plain rfl (op_bin _ _ _ _ _ rfl rfl rfl),
          st_plain rfl (op_move _ _ _ _ (congrArg (fun b => AV.v (Value.bool b)) hg1_3) rfl),
          st_run 3 10 true rfl rfl rfl (List.Mem.head _) (op_move _ _ _ _ rfl rfl),
          st_run 3 10 true rfl rfl rfl (List.Mem.head _) (op_move _ _ _ _ rfl rfl),
          st_run 3 10 true rfl rfl rfl (List.Mem.head _) (op_bin _ _ _ _ _ rfl rfl rfl),
          st_plain rfl (op_pick _ _ true _ rfl rfl),
          st_plain rfl (op_assign _ _ _ _ rfl rfl),
          trivial⟩ ?_
      exact hl3 _ (Option.some.inj h).symm
    · refine ht_seqR hn (El := [_, _, _, (7, .v (.int .i64 n)), (8, .v (.int .i64 lo)), (9, .v (.bool ((decide (lo ≤ n))))), (10, .v (.bool false)), (11, .v undef), (12, .v undef), (13, .v undef), (14, .v (.bool false)), (6, .v (.bool false))]) (init := [0, 1, 2]) (fin := [11]) (sps := [⟨[0], [], [3], [(.slot 7)]⟩, ⟨[1], [], [4], [(.slot 8)]⟩, ⟨[3, 4], [], [5], [(.slot 9)]⟩, ⟨[5], [], [6], [(.slot 10)]⟩, ⟨[6], [], [7], [(.slot 11)]⟩, ⟨[6], [], [8], [(.slot 12)]⟩, ⟨[6], [], [9], [(.slot 13)]⟩, ⟨[6], [], [10], [(.slot 14)]⟩, ⟨[10], [], [11], [(.slot 6)]⟩]) (es' := [(6, .v (.bool false))]) (by kernel_rfl) rfl rfl
        ⟨st_plain rfl (op_move _ _ _ _ rfl rfl),
          st_plain rfl (op_move _ _ _ _ rfl rfl),
          st_plain rfl (op_bin _ _ _ _ _ rfl rfl rfl),
          st_plain rfl (op_move _ _ _ _ (congrArg (fun b => AV.v (Value.bool b)) hg1_3) rfl),
          st_skip 3 10 _ true rfl rfl rfl rfl (List.Mem.head _),
          st_skip 3 10 _ true rfl rfl rfl rfl (List.Mem.head _),
          st_skip 3 10 _ true rfl rfl rfl rfl (List.Mem.head _),
          st_plain rfl (op_pick _ _ false _ rfl rfl),
          st_plain rfl (op_assign _ _ _ _ rfl rfl),
          trivial⟩ ?_
      exact hl3 _ (Option.some.inj h).symm

set_option maxHeartbeats 1000000 in
theorem ok_wherryref01_LenOf (sym : Int) (r : (Int × Int × Int)) (h : Sh.wherryref01_LenOf sym = some r) : FnOK Try.prog 14 [.v (.int .i64 sym)] (.tup [.v (.int .i64 r.1), .v (.int .i64 r.2.1), .v (.int .i64 r.2.2)]) := by
  unfold Sh.wherryref01_LenOf at h
  refine fn_ok Try.func14 rfl (Nat.le_of_ble_eq_true rfl) rfl rfl fun g0 hn hio => ?_
  refine ht_seq ?_
  refine ht_seqR hn (El := [_, (2, .v (.int .i64 0)), (3, .v (.int .i64 0)), (4, .v (.int .i64 0))]) (init := [0]) (fin := [0]) (sps := [⟨[], [], [1], [(.slot 2)]⟩, ⟨[], [], [2], [(.slot 3)]⟩, ⟨[], [], [3], [(.slot 4)]⟩]) (es' := [(_, _)]) (by kernel_rfl) rfl rfl
    ⟨st_plain rfl (op_assign _ _ _ _ rfl rfl),
      st_plain rfl (op_assign _ _ _ _ rfl rfl),
      st_plain rfl (op_assign _ _ _ _ rfl rfl),
      trivial⟩ ?_
  refine pt_then ?_
  refine ht_seq ?_
  refine ht_seq ?_
  obtain ⟨v1, hv1, h⟩ := bind_some h
  refine ht_seqR hn (El := [_, (6, .v (.int .i64 sym)), (7, .v (.bool v1)), (8, .v (.bool (!v1)))]) (init := [0]) (fin := [0, 3]) (sps := [⟨[0], [], [1], [(.slot 6)]⟩, ⟨[1], [], [2], [(.slot 7)]⟩, ⟨[2], [], [3], [(.slot 8)]⟩]) (es' := [(_, _), (8, .v (.bool (!v1)))]) (by kernel_rfl) rfl rfl
    ⟨st_plain rfl (op_move _ _ _ _ rfl rfl),
      st_plain rfl (op_call _ _ 30 _ _ rfl Try.call30 rfl (ok_wherryref01_in sym 257 285 _ hv1) rfl rfl),
      st_plain rfl (op_un _ _ _ _ rfl rfl),
      trivial⟩ ?_
  refine pt_then ?_
  refine ht_cond _ rfl (fun hb2 => ?_) (fun hb2 => ?_)
  · have h := cond_t hb2 h
    refine ht_seq ?_
    refine ht_seqR hn (El := [_, _, (2, .v (.int .i64 0)), (3, .v (.int .i64 0)), (4, .v (.int .i64 1))]) (init := [0, 1]) (fin := [2, 3, 4]) (sps := [⟨[], [], [2], [(.slot 2)]⟩, ⟨[], [], [3], [(.slot 3)]⟩, ⟨[], [], [4], [(.slot 4)]⟩]) (es' := [(2, .v (.int .i64 0)), (3, .v (.int .i64 0)), (4, .v (.int .i64 1))]) (by kernel_rfl) rfl rfl
      ⟨st_plain rfl (op_assign _ _ _ _ rfl rfl),
        st_plain rfl (op_assign _ _ _ _ rfl rfl),
        st_plain rfl (op_assign _ _ _ _ rfl rfl),
        trivial⟩ ?_
    refine pt_then ?_
    refine ht_ret ?_
    refine pt_r_then ?_
    obtain rfl := Option.some.inj h
    exact pt_ret hio rfl (.tmp _ _ (.tmp _ _ (.tmp _ _ .nil))) rfl rfl
  · have h := cond_f hb2 h
    refine ht_skip ?_
    refine pt_then ?_
    refine ht_seq ?_
    refine ht_seq ?_
    refine ht_seqR hn (El := [_, _, (9, .v (.int .i64 sym)), (10, .v (.bool ((decide (sym < 265)))))]) (init := [0, 1]) (fin := [0, 3]) (sps := [⟨[0], [], [2], [(.slot 9)]⟩, ⟨[2], [], [3], [(.slot 10)]⟩]) (es' := [(_, _), (10, .v (.bool ((decide (sym < 265)))))]) (by kernel_rfl) rfl rfl
      ⟨st_plain rfl (op_move _ _ _ _ rfl rfl),
        st_plain rfl (op_bin _ _ _ _ _ rfl rfl rfl),
        trivial⟩ ?_
    refine pt_then ?_
    refine ht_cond _ rfl (fun hb3 => ?_) (fun hb3 => ?_)
    · have h := cond_t hb3 h
      refine ht_seq ?_
      obtain ⟨v4, hv4, h⟩ := bind_some h
      refine ht_seqR hn (El := [_, _, (11, .v (.int .i64 sym)), (12, .v (.int .i64 v4)), (2, .v (.int .i64 v4)), (3, .v (.int .i64 0)), (4, .v (.int .i64 0))]) (init := [0, 1]) (fin := [4, 5, 6]) (sps := [⟨[0], [], [2], [(.slot 11)]⟩, ⟨[2], [], [3], [(.slot 12)]⟩, ⟨[3], [], [4], [(.slot 2)]⟩, ⟨[], [], [5], [(.slot 3)]⟩, ⟨[], [], [6], [(.slot 4)]⟩]) (es' := [(2, .v (.int .i64 v4)), (3, .v (.int .i64 0)), (4, .v (.int .i64 0))]) (by kernel_rfl) rfl rfl
        ⟨st_plain rfl (op_move _ _ _ _ rfl rfl),
          st_plain rfl (op_bin _ _ _ _ _ rfl rfl (ibind (f := Value.int .i64) (Option.some.inj hv4))),
          st_plain rfl (op_assign _ _ _ _ rfl rfl),
          st_plain rfl (op_assign _ _ _ _ rfl rfl),
          st_plain rfl (op_assign _ _ _ _ rfl rfl),
          trivial⟩ ?_
      refine pt_then ?_
      refine ht_ret ?_
      refine pt_r_then ?_
      obtain rfl := Option.some.inj h
      exact pt_ret hio rfl (.tmp _ _ (.tmp _ _ (.tmp _ _ .nil))) rfl rfl
    · have h := cond_f hb3 h
      refine ht_skip ?_
      refine pt_then ?_
      refine ht_seq ?_
      refine ht_seq ?_
      refine ht_seqR hn (El := [_, _, (13, .v (.int .i64 sym)), (14, .v (.bool (sym == 285)))]) (init := [0, 1]) (fin := [0, 3]) (sps := [⟨[0], [], [2], [(.slot 13)]⟩, ⟨[2], [], [3], [(.slot 14)]⟩]) (es' := [(_, _), (14, .v (.bool (sym == 285)))]) (by kernel_rfl) rfl rfl
        ⟨st_plain rfl (op_move _ _ _ _ rfl rfl),
          st_plain rfl (op_bin _ _ _ _ _ rfl rfl rfl),
          trivial⟩ ?_
      refine pt_then ?_
      refine ht_cond _ rfl (fun hb5 => ?_) (fun hb5 => ?_)
      · have h := cond_t hb5 h
        refine ht_seq ?_
        refine ht_seqR hn (El := [_, _, (2, .v (.int .i64 258)), (3, .v (.int .i64 0)), (4, .v (.int .i64 0))]) (init := [0, 1]) (fin := [2, 3, 4]) (sps := [⟨[], [], [2], [(.slot 2)]⟩, ⟨[], [], [3], [(.slot 3)]⟩, ⟨[], [], [4], [(.slot 4)]⟩]) (es' := [(2, .v (.int .i64 258)), (3, .v (.int .i64 0)), (4, .v (.int .i64 0))]) (by kernel_rfl) rfl rfl
          ⟨st_plain rfl (op_assign _ _ _ _ rfl rfl),
            st_plain rfl (op_assign _ _ _ _ rfl rfl),
            st_plain rfl (op_assign _ _ _ _ rfl rfl),
            trivial⟩ ?_
        refine pt_then ?_
        refine ht_ret ?_
        refine pt_r_then ?_
        obtain rfl := Option.some.inj h
        exact pt_ret hio rfl (.tmp _ _ (.tmp _ _ (.tmp _ _ .nil))) rfl rfl
      · have h := cond_f hb5 h
        refine ht_skip ?_
        refine pt_then ?_
        refine ht_seq ?_
        obtain ⟨v6, hv6, h⟩ := bind_some h
        obtain ⟨v7, hv7, h⟩ := bind_some h
        refine ht_seqR hn (El := [_, _, (15, .v (.int .i64 sym)), (16, .v (.int .i64 v6)), (17, .v (.int .i64 v7)), (5, .v (.int .i64 v7))]) (init := [0, 1]) (fin := [0, 5]) (sps := [⟨[0], [], [2], [(.slot 15)]⟩, ⟨[2], [], [3], [(.slot 16)]⟩, ⟨[3], [], [4], [(.slot 17)]⟩, ⟨[4], [], [5], [(.slot 5)]⟩]) (es' := [(_, _), (5, .v (.int .i64 v7))]) (by kernel_rfl) rfl rfl
          ⟨st_plain rfl (op_move _ _ _ _ rfl rfl),
            st_plain rfl (op_bin _ _ _ _ _ rfl rfl (ibind (f := Value.int .i64) (Option.some.inj hv6))),
            st_plain rfl (op_bin _ _ _ _ _ rfl rfl (quo_ok hv7)),
            st_plain rfl (op_assign _ _ _ _ rfl rfl),
            trivial⟩ ?_
        refine pt_then ?_
        refine ht_seq ?_
        obtain ⟨v8, hv8, h⟩ := bind_some h
        obtain ⟨v9, hv9, h⟩ := bind_some h
        obtain ⟨v10, hv10, h⟩ := bind_some h
        obtain ⟨v11, hv11, h⟩ := bind_some h
        obtain ⟨v12, hv12, h⟩ := bind_some h
        obtain ⟨v13, hv13, h⟩ := bind_some h
        refine ht_seqR hn (El := [_, _, (18, .v (.int .i64 sym)), (19, .v (.int .i64 v8)), (20, .v (.int .i64 v9)), (21, .v (.int .i64 v10)), (22, .v (.int .i64 v7)), (23, .v (.int .u64 v11)), (24, .v (.int .i64 v12)), (25, .v (.int .i64 v13)), (26, .v (.int .i64 v7)), (2, .v (.int .i64 v13)), (3, .v (.int .i64 v7)), (4, .v (.int .i64 0))]) (init := [0, 1]) (fin := [11, 12, 13]) (sps := [⟨[0], [], [2], [(.slot 18)]⟩, ⟨[2], [], [3], [(.slot 19)]⟩, ⟨[3], [], [4], [(.slot 20)]⟩, ⟨[4], [], [5], [(.slot 21)]⟩, ⟨[1], [], [6], [(.slot 22)]⟩, ⟨[6], [], [7], [(.slot 23)]⟩, ⟨[5, 7], [], [8], [(.slot 24)]⟩, ⟨[8], [], [9], [(.slot 25)]⟩, ⟨[1], [], [10], [(.slot 26)]⟩, ⟨[9], [], [11], [(.slot 2)]⟩, ⟨[10], [], [12], [(.slot 3)]⟩, ⟨[], [], [13], [(.slot 4)]⟩]) (es' := [(2, .v (.int .i64 v13)), (3, .v (.int .i64 v7)), (4, .v (.int .i64 0))]) (by kernel_rfl) rfl rfl
          ⟨st_plain rfl (op_move _ _ _ _ rfl rfl),
            st_plain rfl (op_bin _ _ _ _ _ rfl rfl (ibind (f := Value.int .i64) (Option.some.inj hv8))),
            st_plain rfl (op_bin _ _ _ _ _ rfl rfl (rem_ok hv9)),
            st_plain rfl (op_bin _ _ _ _ _ rfl rfl (ibind (f := Value.int .i64) (Option.some.inj hv10))),
            st_plain rfl (op_move _ _ _ _ rfl rfl),
            st_plain rfl ((Option.some.inj hv11) ▸ op_conv _ _ _ Try.underlying3 Try.underlying38 rfl),
            st_plain rfl (op_bin _ _ _ _ _ rfl rfl (shl_ok hv12)),
            st_plain rfl (op_bin _ _ _ _ _ rfl rfl (ibind (f := Value.int .i64) (Option.some.inj hv13))),
            st_plain rfl (op_move _ _ _ _ rfl rfl),
            st_plain rfl (op_assign _ _ _ _ rfl rfl),
            st_plain rfl (op_assign _ _ _ _ rfl rfl),
            st_plain rfl (op_assign _ _ _ _ rfl rfl),
            trivial⟩ ?_
        refine pt_then ?_
        refine ht_ret ?_
        obtain rfl := Option.some.inj h
        exact pt_ret hio rfl (.tmp _ _ (.tmp _ _ (.tmp _ _ .nil))) rfl rfl

set_option maxHeartbeats 1000000 in
theorem ok_wherryref01_leastLen (sym : Int) (r : Int) (h : Sh.wherryref01_leastLen sym = some r) : FnOK Try.prog 31 [.v (.int .i64 sym)] (.v (.int .i64 r)) := by
  unfold Sh.wherryref01_leastLen at h
  refine fn_ok Try.func31 rfl (Nat.le_of_ble_eq_true rfl) rfl rfl fun g0 hn hio => ?_
  refine ht_seq ?_
  refine ht_seqR hn (El := [_, (2, .v (.int .i64 0))]) (init := [0]) (fin := [0]) (sps := [⟨[], [], [1], [(.slot 2)]⟩]) (es' := [(_, _)]) (by kernel_rfl) rfl rfl
    ⟨st_plain rfl (op_assign _ _ _ _ rfl rfl),
      trivial⟩ ?_
  refine pt_then ?_
  refine ht_seq ?_
  obtain ⟨v1, hv1, h⟩ := bind_some h
  refine ht_seqR hn (El := [_, (7, .v (.int .i64 sym)), (8, .tup [.v (.int .i64 v1.1), .v (.int .i64 v1.2.1), .v (.int .i64 v1.2.2)]), (6, .tup [.v (.int .i64 v1.1), .v (.int .i64 v1.2.1), .v (.int .i64 v1.2.2)]), (9, .v (.int .i64 v1.1)), (10, .v (.int .i64 v1.2.1)), (11, .v (.int .i64 v1.2.2)), (3, .v (.int .i64 v1.1)), (4, .v (.int .i64 v1.2.1)), (5, .v (.int .i64 v1.2.2))]) (init := [0]) (fin := [7]) (sps := [⟨[0], [], [1], [(.slot 7)]⟩, ⟨[1], [], [2], [(.slot 8)]⟩, ⟨[], [2], [3], [(.slot 6)]⟩, ⟨[3], [], [4], [(.slot 9)]⟩, ⟨[3], [], [5], [(.slot 10)]⟩, ⟨[3], [], [6], [(.slot 11)]⟩, ⟨[4], [], [7], [(.slot 3)]⟩, ⟨[5], [], [8], [(.slot 4)]⟩, ⟨[6], [], [9], [(.slot 5)]⟩]) (es' := [(3, .v (.int .i64 v1.1))]) (by kernel_rfl) rfl rfl
    ⟨st_plain rfl (op_move _ _ _ _ rfl rfl),
      st_plain rfl (op_call _ _ 14 _ _ rfl Try.call14 rfl (ok_wherryref01_LenOf sym _ hv1) rfl rfl),
      st_plain rfl (op_move_take _ _ _ _ rfl),
      st_plain rfl (op_extract _ _ _ _ _ rfl rfl (Nat.le_of_ble_eq_true rfl) rfl rfl),
      st_plain rfl (op_extract _ _ _ _ _ rfl rfl (Nat.le_of_ble_eq_true rfl) rfl rfl),
      st_plain rfl (op_extract _ _ _ _ _ rfl rfl (Nat.le_of_ble_eq_true rfl) rfl rfl),
      st_plain rfl (op_assign _ _ _ _ rfl rfl),
      st_plain rfl (op_assign _ _ _ _ rfl rfl),
      st_plain rfl (op_assign _ _ _ _ rfl rfl),
      trivial⟩ ?_
  refine pt_then ?_
  refine ht_seq ?_
  refine ht_seqR hn (El := [_, (12, .v (.int .i64 v1.1)), (2, .v (.int .i64 v1.1))]) (init := [0]) (fin := [2]) (sps := [⟨[0], [], [1], [(.slot 12)]⟩, ⟨[1], [], [2], [(.slot 2)]⟩]) (es' := [(2, .v (.int .i64 v1.1))]) (by kernel_rfl) rfl rfl
    ⟨st_plain rfl (op_move _ _ _ _ rfl rfl),
      st_plain rfl (op_assign _ _ _ _ rfl rfl),
      trivial⟩ ?_
  refine pt_then ?_
  refine ht_ret ?_
  obtain rfl := Option.some.inj h
  exact pt_ret hio rfl (.tmp _ _ .nil) rfl rfl

set_option maxHeartbeats 1000000 in
theorem ok_wherryref01_Len (n : Int) (r : (Int × Int × Int × Int)) (h : Sh.wherryref01_Len n = some r) : FnOK Try.prog 10 [.v (.int .i64 n)] (.tup [.v (.int .i64 r.1), .v (.int .i64 r.2.1), .v (.int .i64 r.2.2.1), .v (.int .i64 r.2.2.2)]) := by
  unfold Sh.wherryref01_Len at h
  refine fn_ok Try.func10 rfl (Nat.le_of_ble_eq_true rfl) rfl rfl fun g0 hn hio => ?_
  refine ht_seq ?_
  refine ht_seqR hn (El := [_, (2, .v (.int .i64 0)), (3, .v (.int .i64 0)), (4, .v (.int .i64 0)), (5, .v (.int .i64 0))]) (init := [0]) (fin := [0]) (sps := [⟨[], [], [1], [(.slot 2)]⟩, ⟨[], [], [2], [(.slot 3)]⟩, ⟨[], [], [3], [(.slot 4)]⟩, ⟨[], [], [4], [(.slot 5)]⟩]) (es' := [(_, _)]) (by kernel_rfl) rfl rfl
    ⟨st_plain rfl (op_assign _ _ _ _ rfl rfl),
      st_plain rfl (op_assign _ _ _ _ rfl rfl),
      st_plain rfl (op_assign _ _ _ _ rfl rfl),
      st_plain rfl (op_assign _ _ _ _ rfl rfl),
      trivial⟩ ?_
  refine pt_then ?_
  refine ht_seq ?_
  refine ht_seq ?_
  obtain ⟨v1, hv1, h⟩ := bind_some h
  refine ht_seqR hn (El := [_, (10, .v (.int .i64 n)), (11, .v (.bool v1)), (12, .v (.bool (!v1)))]) (init := [0]) (fin := [0, 3]) (sps := [⟨[0], [], [1], [(.slot 10)]⟩, ⟨[1], [], [2], [(.slot 11)]⟩, ⟨[2], [], [3], [(.slot 12)]⟩]) (es' := [(_, _), (12, .v (.bool (!v1)))]) (by kernel_rfl) rfl rfl
    ⟨st_plain rfl (op_move _ _ _ _ rfl rfl),
      st_plain rfl (op_call _ _ 30 _ _ rfl Try.call30 rfl (ok_wherryref01_in n 3 258 _ hv1) rfl rfl),
      st_plain rfl (op_un _ _ _ _ rfl rfl),
      trivial⟩ ?_
  refine pt_then ?_
  refine ht_cond _ rfl (fun hb2 => ?_) (fun hb2 => ?_)
  · have h := cond_t hb2 h
    refine ht_seq ?_
    refine ht_seqR hn (El := [_, _, (2, .v (.int .i64 0)), (3, .v (.int .i64 0)), (4, .v (.int .i64 0)), (5, .v (.int .i64 1))]) (init := [0, 1]) (fin := [2, 3, 4, 5]) (sps := [⟨[], [], [2], [(.slot 2)]⟩, ⟨[], [], [3], [(.slot 3)]⟩, ⟨[], [], [4], [(.slot 4)]⟩, ⟨[], [], [5], [(.slot 5)]⟩]) (es' := [(2, .v (.int .i64 0)), (3, .v (.int .i64 0)), (4, .v (.int .i64 0)), (5, .v (.int .i64 1))]) (by kernel_rfl) rfl rfl
      ⟨st_plain rfl (op_assign _ _ _ _ rfl rfl),
        st_plain rfl (op_assign _ _ _ _ rfl rfl),
        st_plain rfl (op_assign _ _ _ _ rfl rfl),
        st_plain rfl (op_assign _ _ _ _ rfl rfl),
        trivial⟩ ?_
    refine pt_then ?_
    refine ht_ret ?_
    refine pt_r_then ?_
    obtain rfl := Option.some.inj h
    exact pt_ret hio rfl (.tmp _ _ (.tmp _ _ (.tmp _ _ (.tmp _ _ .nil)))) rfl rfl
  · have h := cond_f hb2 h
    refine ht_skip ?_
    refine pt_then ?_
    refine ht_seq ?_
    refine ht_seqR hn (El := [_, _, (6, .v (.int .i64 285))]) (init := [0, 1]) (fin := [0, 2]) (sps := [⟨[], [], [2], [(.slot 6)]⟩]) (es' := [(_, _), (6, .v (.int .i64 285))]) (by kernel_rfl) rfl rfl
      ⟨st_plain rfl (op_assign _ _ _ _ rfl rfl),
        trivial⟩ ?_
    refine pt_then ?_
    refine ht_seq ?_
    refine ht_loopS h (fun (s17 : Int) => [(0, .v (.int .i64 n)), (6, .v (.int .i64 s17))]) (fun (s23 : Int) => [(0, .v (.int .i64 n)), (6, .v (.int .i64 s23))]) ?_ ?_
    · rintro s23 h
      refine pt_then ?_
      refine ht_seq ?_
      obtain ⟨v35, hv35, h⟩ := bind_some h
      refine ht_seqR hn (El := [_, _, (32, .v (.int .i64 s23)), (33, .tup [.v (.int .i64 v35.1), .v (.int .i64 v35.2.1), .v (.int .i64 v35.2.2)]), (31, .tup [.v (.int .i64 v35.1), .v (.int .i64 v35.2.1), .v (.int .i64 v35.2.2)]), (34, .v (.int .i64 v35.1)), (35, .v (.int .i64 v35.2.1)), (36, .v (.int .i64 v35.2.2)), (7, .v (.int .i64 v35.1)), (8, .v (.int .i64 v35.2.1)), (9, .v (.int .i64 v35.2.2))]) (init := [0, 1]) (fin := [0, 1, 8, 9]) (sps := [⟨[1], [], [2], [(.slot 32)]⟩, ⟨[2], [], [3], [(.slot 33)]⟩, ⟨[], [3], [4], [(.slot 31)]⟩, ⟨[4], [], [5], [(.slot 34)]⟩, ⟨[4], [], [6], [(.slot 35)]⟩, ⟨[4], [], [7], [(.slot 36)]⟩, ⟨[5], [], [8], [(.slot 7)]⟩, ⟨[6], [], [9], [(.slot 8)]⟩, ⟨[7], [], [10], [(.slot 9)]⟩]) (es' := [(_, _), (_, _), (7, .v (.int .i64 v35.1)), (8, .v (.int .i64 v35.2.1))]) (by kernel_rfl) rfl rfl
        ⟨st_plain rfl (op_move _ _ _ _ rfl rfl),
          st_plain rfl (op_call _ _ 14 _ _ rfl Try.call14 rfl (ok_wherryref01_LenOf s23 _ hv35) rfl rfl),
          st_plain rfl (op_move_take _ _ _ _ rfl),
          st_plain rfl (op_extract _ _ _ _ _ rfl rfl (Nat.le_of_ble_eq_true rfl) rfl rfl),
          st_plain rfl (op_extract _ _ _ _ _ rfl rfl (Nat.le_of_ble_eq_true rfl) rfl rfl),
          st_plain rfl (op_extract _ _ _ _ _ rfl rfl (Nat.le_of_ble_eq_true rfl) rfl rfl),
          st_plain rfl (op_assign _ _ _ _ rfl rfl),
          st_plain rfl (op_assign _ _ _ _ rfl rfl),
          st_plain rfl (op_assign _ _ _ _ rfl rfl),
          trivial⟩ ?_
      refine pt_then ?_
      refine ht_seq ?_
      obtain ⟨v36, hv36, h⟩ := bind_some h
      refine ht_seqR hn (El := [_, _, _, _, (37, .v (.int .i64 s23)), (38, .v (.int .i64 v35.2.1)), (39, .v (.int .i64 n)), (40, .v (.int .i64 v35.1)), (41, .v (.int .i64 v36)), (2, .v (.int .i64 s23)), (3, .v (.int .i64 v35.2.1)), (4, .v (.int .i64 v36)), (5, .v (.int .i64 0))]) (init := [0, 1, 2, 3]) (fin := [9, 10, 11, 12]) (sps := [⟨[1], [], [4], [(.slot 37)]⟩, ⟨[3], [], [5], [(.slot 38)]⟩, ⟨[0], [], [6], [(.slot 39)]⟩, ⟨[2], [], [7], [(.slot 40)]⟩, ⟨[6, 7], [], [8], [(.slot 41)]⟩, ⟨[4], [], [9], [(.slot 2)]⟩, ⟨[5], [], [10], [(.slot 3)]⟩, ⟨[8], [], [11], [(.slot 4)]⟩, ⟨[], [], [12], [(.slot 5)]⟩]) (es' := [(2, .v (.int .i64 s23)), (3, .v (.int .i64 v35.2.1)), (4, .v (.int .i64 v36)), (5, .v (.int .i64 0))]) (by kernel_rfl) rfl rfl
        ⟨st_plain rfl (op_move _ _ _ _ rfl rfl),
          st_plain rfl (op_move _ _ _ _ rfl rfl),
          st_plain rfl (op_move _ _ _ _ rfl rfl),
          st_plain rfl (op_move _ _ _ _ rfl rfl),
          st_plain rfl (op_bin _ _ _ _ _ rfl rfl (ibind (f := Value.int .i64) (Option.some.inj hv36))),
          st_plain rfl (op_assign _ _ _ _ rfl rfl),
          st_plain rfl (op_assign _ _ _ _ rfl rfl),
          st_plain rfl (op_assign _ _ _ _ rfl rfl),
          st_plain rfl (op_assign _ _ _ _ rfl rfl),
          trivial⟩ ?_
      refine pt_then ?_
      refine ht_ret ?_
      obtain rfl := Option.some.inj h
      exact pt_ret hio rfl (.tmp _ _ (.tmp _ _ (.tmp _ _ (.tmp _ _ .nil)))) rfl rfl
    · rintro u24 hl25 hr26 s17 rr29 h ho27
      refine ht_seq ?_
      refine ht_seq ?_
      refine ht_joinS h (fun (s30 : Bool) => [(0, .v (.int .i64 n)), (6, .v (.int .i64 s17)), (28, .v (.bool s30))]) ?_ ?_
      · rintro s30 h
        refine pt_then ?_
        refine ht_cond _ rfl (fun hb34 => ?_) (fun hb34 => ?_)
        · have h := cond_t hb34 h
          refine ht_skip ?_
          refine pt_then ?_
          refine ht_block ?_
          obtain ⟨v10, hv10, h⟩ := bind_some h
          refine ht_seqR hn (El := [_, _, _, (29, .v (.int .i64 s17)), (30, .v (.int .i64 v10)), (6, .v (.int .i64 v10))]) (init := [0, 1, 2]) (fin := [0, 5]) (sps := [⟨[1], [], [3], [(.slot 29)]⟩, ⟨[3], [], [4], [(.slot 30)]⟩, ⟨[4], [1], [5], [(.slot 6)]⟩]) (es' := [(_, _), (6, .v (.int .i64 v10))]) (by kernel_rfl) rfl rfl
            ⟨st_plain rfl (op_move _ _ _ _ rfl rfl),
              st_plain rfl (op_bin _ _ _ _ _ rfl rfl (ibind (f := Value.int .i64) (Option.some.inj hv10))),
              st_plain rfl (LOp.drop [_] (op_assign _ _ _ _ rfl rfl)),
              trivial⟩ ?_
          refine pt_inb ?_
          exact pt_next _ (Option.some.inj h).symm rfl
        · have h := cond_f hb34 h
          refine ht_exit ?_
          refine pt_x_then ?_
          refine pt_x_then ?_
          refine pt_x_in ?_
          refine pt_pick [0, 1] (by kernel_rfl) (es' := [(_, _), (_, _)]) rfl ?_
          exact hl25 _ (ho27 _ (Option.some.inj h).symm).symm
      · intro u31 h hl32 hr33
        refine cond_some h (fun hg4_2 h => ?_) (fun hg4_2 h => ?_)
        · refine cond_some h (fun hg4_6 h => ?_) (fun hg4_6 h => ?_)
          · refine ht_seqR hn (El := (_ :: _ :: (13, .v (.int .i64 n)) :: (14, .v (.bool ((decide (n < 258))))) :: (15, .v (.bool true)) :: (16, .v (.int .i64 s17)) :: (17, .v (.bool (s17 == 285))) :: (18, .v (.bool (s17 == 285))) :: (19, .v (.bool true)) :: (20, .v undef) :: (21, .v undef) :: (22, .v undef) :: (23, .v undef) :: (24, .v undef) :: (25, .v undef) :: (26, .v undef) :: (27, .v undef) :: (28, .v (.bool true)) :: [])) (init := [0, 1]) (fin := [0, 1, 17]) (sps := (⟨[0], [], [2], [(.slot 13)]⟩ :: ⟨[2], [], [3], [(.slot 14)]⟩ :: ⟨[3], [], [4], [(.slot 15)]⟩ :: ⟨[4, 1], [], [5], [(.slot 16)]⟩ :: ⟨[4, 5], [], [6], [(.slot 17)]⟩ :: ⟨[4, 6], [], [7], [(.slot 18)]⟩ :: ⟨[7], [], [8], [(.slot 19)]⟩ :: ⟨[8], [], [9], [(.slot 20)]⟩ :: ⟨[8], [], [10], [(.slot 21)]⟩ :: ⟨[8], [], [11], [(.slot 22)]⟩ :: ⟨[11], [], [12], [(.slot 23)]⟩ :: ⟨[11], [], [13], [(.slot 24)]⟩ :: ⟨[11], [], [14], [(.slot 25)]⟩ :: ⟨[11], [], [15], [(.slot 26)]⟩ :: ⟨[8], [], [16], [(.slot 27)]⟩ :: ⟨[8], [], [17], [(.slot 28)]⟩ :: [])) (es' := [(_, _), (_, _), (28, .v (.bool true))]) (by kernel_rfl) rfl rfl
              ⟨st_plain rfl (op_move _ _ _ _ rfl rfl),
                st_plain rfl (op_bin _ _ _ _ _ rfl rfl rfl),
                st_plain rfl (op_move _ _ _ _ (congrArg (fun b => AV.v (Value.bool b)) hg4_2) rfl),
                st_run 2 15 true rfl rfl rfl (List.Mem.head _) (op_move _ _ _ _ rfl rfl),
                st_run 2 15 true rfl rfl rfl (List.Mem.head _) (op_bin _ _ _ _ _ rfl rfl rfl),
                st_plain rfl (op_pick _ _ true _ rfl rfl),
                st_plain rfl (op_move _ _ _ _ (congrArg (fun b => AV.v (Value.bool b)) hg4_6) rfl),
                st_skip 6 19 _ false rfl rfl rfl rfl (List.Mem.head _),
                st_skip 6 19 _ false rfl rfl rfl rfl (List.Mem.head _),
                st_skip 6 19 _ false rfl rfl rfl rfl (List.Mem.head _),
                st_skipU 9 22 _ true rfl rfl rfl rfl (List.Mem.head _),
                st_skipU 9 22 _ true rfl rfl rfl rfl (List.Mem.head _),
                st_skipU 9 22 _ true rfl rfl rfl rfl (List.Mem.head _),
                st_skipU 9 22 _ true rfl rfl rfl rfl (List.Mem.head _),
                st_skip 6 19 _ false rfl rfl rfl rfl (List.Mem.head _),
                st_plain rfl (op_pick _ _ true _ rfl rfl),
                trivial⟩ ?_
            exact hl32 _ (Option.some.inj h).symm
          · refine cond_some h (fun hg4_9 h => ?_) (fun hg4_9 h => ?_)
            · obtain ⟨v3, hv3, h⟩ := bind_some h
              refine ht_seqR hn (El := (_ :: _ :: (13, .v (.int .i64 n)) :: (14, .v (.bool ((decide (n < 258))))) :: (15, .v (.bool true)) :: (16, .v (.int .i64 s17)) :: (17, .v (.bool (s17 == 285))) :: (18, .v (.bool (s17 == 285))) :: (19, .v (.bool false)) :: (20, .v (.int .i64 s17)) :: (21, .v (.bool ((decide (s17 < 285))))) :: (22, .v (.bool true)) :: (23, .v (.int .i64 s17)) :: (24, .v (.int .i64 v3)) :: (25, .v (.int .i64 n)) :: (26, .v (.bool ((decide (n < v3))))) :: (27, .v (.bool ((decide (n < v3))))) :: (28, .v (.bool ((decide (n < v3))))) :: [])) (init := [0, 1]) (fin := [0, 1, 17]) (sps := (⟨[0], [], [2], [(.slot 13)]⟩ :: ⟨[2], [], [3], [(.slot 14)]⟩ :: ⟨[3], [], [4], [(.slot 15)]⟩ :: ⟨[4, 1], [], [5], [(.slot 16)]⟩ :: ⟨[4, 5], [], [6], [(.slot 17)]⟩ :: ⟨[4, 6], [], [7], [(.slot 18)]⟩ :: ⟨[7], [], [8], [(.slot 19)]⟩ :: ⟨[8, 1], [], [9], [(.slot 20)]⟩ :: ⟨[8, 9], [], [10], [(.slot 21)]⟩ :: ⟨[8, 10], [], [11], [(.slot 22)]⟩ :: ⟨[11, 1], [], [12], [(.slot 23)]⟩ :: ⟨[11, 12], [], [13], [(.slot 24)]⟩ :: ⟨[11, 0], [], [14], [(.slot 25)]⟩ :: ⟨[11, 13, 14], [], [15], [(.slot 26)]⟩ :: ⟨[8, 11, 15], [], [16], [(.slot 27)]⟩ :: ⟨[8, 16], [], [17], [(.slot 28)]⟩ :: [])) (es' := [(_, _), (_, _), (28, .v (.bool ((decide (n < v3)))))]) (by kernel_rfl) rfl rfl
                ⟨st_plain rfl (op_move _ _ _ _ rfl rfl),
                  st_plain rfl (op_bin _ _ _ _ _ rfl rfl rfl),
                  st_plain rfl (op_move _ _ _ _ (congrArg (fun b => AV.v (Value.bool b)) hg4_2) rfl),
                  st_run 2 15 true rfl rfl rfl (List.Mem.head _) (op_move _ _ _ _ rfl rfl),
                  st_run 2 15 true rfl rfl rfl (List.Mem.head _) (op_bin _ _ _ _ _ rfl rfl rfl),
                  st_plain rfl (op_pick _ _ true _ rfl rfl),
                  st_plain rfl (op_move _ _ _ _ (congrArg (fun b => AV.v (Value.bool b)) hg4_6) rfl),
                  st_run 6 19 false rfl rfl rfl (List.Mem.head _) (op_move _ _ _ _ rfl rfl),
                  st_run 6 19 false rfl rfl rfl (List.Mem.head _) (op_bin _ _ _ _ _ rfl rfl rfl),
                  st_run 6 19 false rfl rfl rfl (List.Mem.head _) (op_move _ _ _ _ (congrArg (fun b => AV.v (Value.bool b)) hg4_9) rfl),
                  st_run 9 22 true rfl rfl rfl (List.Mem.head _) (op_move _ _ _ _ rfl rfl),
                  st_run 9 22 true rfl rfl rfl (List.Mem.head _) (op_call _ _ 31 _ _ rfl Try.call31 rfl (ok_wherryref01_leastLen s17 _ hv3) rfl rfl),
                  st_run 9 22 true rfl rfl rfl (List.Mem.head _) (op_move _ _ _ _ rfl rfl),
                  st_run 9 22 true rfl rfl rfl (List.Mem.head _) (op_bin _ _ _ _ _ rfl rfl rfl),
                  st_run 6 19 false rfl rfl rfl (List.Mem.head _) (op_pick _ _ true _ rfl rfl),
                  st_plain rfl (op_pick _ _ false _ rfl rfl),
                  trivial⟩ ?_
              exact hl32 _ (Option.some.inj h).symm
            · refine ht_seqR hn (El := (_ :: _ :: (13, .v (.int .i64 n)) :: (14, .v (.bool ((decide (n < 258))))) :: (15, .v (.bool true)) :: (16, .v (.int .i64 s17)) :: (17, .v (.bool (s17 == 285))) :: (18, .v (.bool (s17 == 285))) :: (19, .v (.bool false)) :: (20, .v (.int .i64 s17)) :: (21, .v (.bool ((decide (s17 < 285))))) :: (22, .v (.bool false)) :: (23, .v undef) :: (24, .v undef) :: (25, .v undef) :: (26, .v undef) :: (27, .v (.bool false)) :: (28, .v (.bool false)) :: [])) (init := [0, 1]) (fin := [0, 1, 17]) (sps := (⟨[0], [], [2], [(.slot 13)]⟩ :: ⟨[2], [], [3], [(.slot 14)]⟩ :: ⟨[3], [], [4], [(.slot 15)]⟩ :: ⟨[4, 1], [], [5], [(.slot 16)]⟩ :: ⟨[4, 5], [], [6], [(.slot 17)]⟩ :: ⟨[4, 6], [], [7], [(.slot 18)]⟩ :: ⟨[7], [], [8], [(.slot 19)]⟩ :: ⟨[8, 1], [], [9], [(.slot 20)]⟩ :: ⟨[8, 9], [], [10], [(.slot 21)]⟩ :: ⟨[8, 10], [], [11], [(.slot 22)]⟩ :: ⟨[11], [], [12], [(.slot 23)]⟩ :: ⟨[11], [], [13], [(.slot 24)]⟩ :: ⟨[11], [], [14], [(.slot 25)]⟩ :: ⟨[11], [], [15], [(.slot 26)]⟩ :: ⟨[8, 11], [], [16], [(.slot 27)]⟩ :: ⟨[8, 16], [], [17], [(.slot 28)]⟩ :: [])) (es' := [(_, _), (_, _), (28, .v (.bool false))]) (by kernel_rfl) rfl rfl
                ⟨st_plain rfl (op_move _ _ _ _ rfl rfl),
                  st_plain rfl (op_bin _ _ _ _ _ rfl rfl rfl),
                  st_plain rfl (op_move _ _ _ _ (congrArg (fun b => AV.v (Value.bool b)) hg4_2) rfl),
                  st_run 2 15 true rfl rfl rfl (List.Mem.head _) (op_move _ _ _ _ rfl rfl),
                  st_run 2 15 true rfl rfl rfl (List.Mem.head _) (op_bin _ _ _ _ _ rfl rfl rfl),
                  st_plain rfl (op_pick _ _ true _ rfl rfl),
                  st_plain rfl (op_move _ _ _ _ (congrArg (fun b => AV.v (Value.bool b)) hg4_6) rfl),
                  st_run 6 19 false rfl rfl rfl (List.Mem.head _) (op_move _ _ _ _ rfl rfl),
                  st_run 6 19 false rfl rfl rfl (List.Mem.head _) (op_bin _ _ _ _ _ rfl rfl rfl),
                  st_run 6 19 false rfl rfl rfl (List.Mem.head _) (op_move _ _ _ _ (congrArg (fun b => AV.v (Value.bool b)) hg4_9) rfl),
                  st_skip 9 22 _ true rfl rfl rfl rfl (List.Mem.head _),
                  st_skip 9 22 _ true rfl rfl rfl rfl (List.Mem.head _),
                  st_skip 9 22 _ true rfl rfl rfl rfl (List.Mem.head _),
                  st_skip 9 22 _ true rfl rfl rfl rfl (List.Mem.head _),
                  st_run 6 19 false rfl rfl rfl (List.Mem.head _) (op_pick _ _ false _ rfl rfl),
                  st_plain rfl (op_pick _ _ false _ rfl rfl),
                  trivial⟩ ?_
              exact hl32 _ (Option.some.inj h).symm
        · refine cond_some h (fun hg4_9 h => ?_) (fun hg4_9 h => ?_)
          · obtain ⟨v4, hv4, h⟩ := bind_some h
            refine ht_seqR hn (El := (_ :: _ :: (13, .v (.int .i64 n)) :: (14, .v (.bool ((decide (n < 258))))) :: (15, .v (.bool false)) :: (16, .v undef) :: (17, .v undef) :: (18, .v (.bool false)) :: (19, .v (.bool false)) :: (20, .v (.int .i64 s17)) :: (21, .v (.bool ((decide (s17 < 285))))) :: (22, .v (.bool true)) :: (23, .v (.int .i64 s17)) :: (24, .v (.int .i64 v4)) :: (25, .v (.int .i64 n)) :: (26, .v (.bool ((decide (n < v4))))) :: (27, .v (.bool ((decide (n < v4))))) :: (28, .v (.bool ((decide (n < v4))))) :: [])) (init := [0, 1]) (fin := [0, 1, 17]) (sps := (⟨[0], [], [2], [(.slot 13)]⟩ :: ⟨[2], [], [3], [(.slot 14)]⟩ :: ⟨[3], [], [4], [(.slot 15)]⟩ :: ⟨[4], [], [5], [(.slot 16)]⟩ :: ⟨[4], [], [6], [(.slot 17)]⟩ :: ⟨[4], [], [7], [(.slot 18)]⟩ :: ⟨[7], [], [8], [(.slot 19)]⟩ :: ⟨[8, 1], [], [9], [(.slot 20)]⟩ :: ⟨[8, 9], [], [10], [(.slot 21)]⟩ :: ⟨[8, 10], [], [11], [(.slot 22)]⟩ :: ⟨[11, 1], [], [12], [(.slot 23)]⟩ :: ⟨[11, 12], [], [13], [(.slot 24)]⟩ :: ⟨[11, 0], [], [14], [(.slot 25)]⟩ :: ⟨[11, 13, 14], [], [15], [(.slot 26)]⟩ :: ⟨[8, 11, 15], [], [16], [(.slot 27)]⟩ :: ⟨[8, 16], [], [17], [(.slot 28)]⟩ :: [])) (es' := [(_, _), (_, _), (28, .v (.bool ((decide (n < v4)))))]) (by kernel_rfl) rfl rfl
              ⟨st_plain rfl (op_move _ _ _ _ rfl rfl),
                st_plain rfl (op_bin _ _ _ _ _ rfl rfl rfl),
                st_plain rfl (op_move _ _ _ _ (congrArg (fun b => AV.v (Value.bool b)) hg4_2) rfl),
                st_skip 2 15 _ true rfl rfl rfl rfl (List.Mem.head _),
                st_skip 2 15 _ true rfl rfl rfl rfl (List.Mem.head _),
                st_plain rfl (op_pick _ _ false _ rfl rfl),
                st_plain rfl (op_move _ _ _ _ rfl rfl),
                st_run 6 19 false rfl rfl rfl (List.Mem.head _) (op_move _ _ _ _ rfl rfl),
                st_run 6 19 false rfl rfl rfl (List.Mem.head _) (op_bin _ _ _ _ _ rfl rfl rfl),
                st_run 6 19 false rfl rfl rfl (List.Mem.head _) (op_move _ _ _ _ (congrArg (fun b => AV.v (Value.bool b)) hg4_9) rfl),
                st_run 9 22 true rfl rfl rfl (List.Mem.head _) (op_move _ _ _ _ rfl rfl),
                st_run 9 22 true rfl rfl rfl (List.Mem.head _) (op_call _ _ 31 _ _ rfl Try.call31 rfl (ok_wherryref01_leastLen s17 _ hv4) rfl rfl),
                st_run 9 22 true rfl rfl rfl (List.Mem.head _) (op_move _ _ _ _ rfl rfl),
                st_run 9 22 true rfl rfl rfl (List.Mem.head _) (op_bin _ _ _ _ _ rfl rfl rfl),
                st_run 6 19 false rfl rfl rfl (List.Mem.head _) (op_pick _ _ true _ rfl rfl),
                st_plain rfl (op_pick _ _ false _ rfl rfl),
                trivial⟩ ?_
            exact hl32 _ (Option.some.inj h).symm
          · refine ht_seqR hn (El := (_ :: _ :: (13, .v (.int .i64 n)) :: (14, .v (.bool ((decide (n < 258))))) :: (15, .v (.bool false)) :: (16, .v undef) :: (17, .v undef) :: (18, .v (.bool false)) :: (19, .v (.bool false)) :: (20, .v (.int .i64 s17)) :: (21, .v (.bool ((decide (s17 < 285))))) :: (22, .v (.bool false)) :: (23, .v undef) :: (24, .v undef) :: (25, .v undef) :: (26, .v undef) :: (27, .v (.bool false)) :: (28, .v (.bool false)) :: [])) (init := [0, 1]) (fin := [0, 1, 17]) (sps := (⟨[0], [], [2], [(.slot 13)]⟩ :: ⟨[2], [], [3], [(.slot 14)]⟩ :: ⟨[3], [], [4], [(.slot 15)]⟩ :: ⟨[4], [], [5], [(.slot 16)]⟩ :: ⟨[4], [], [6], [(.slot 17)]⟩ :: ⟨[4], [], [7], [(.slot 18)]⟩ :: ⟨[7], [], [8], [(.slot 19)]⟩ :: ⟨[8, 1], [], [9], [(.slot 20)]⟩ :: ⟨[8, 9], [], [10], [(.slot 21)]⟩ :: ⟨[8, 10], [], [11], [(.slot 22)]⟩ :: ⟨[11], [], [12], [(.slot 23)]⟩ :: ⟨[11], [], [13], [(.slot 24)]⟩ :: ⟨[11], [], [14], [(.slot 25)]⟩ :: ⟨[11], [], [15], [(.slot 26)]⟩ :: ⟨[8, 11], [], [16], [(.slot 27)]⟩ :: ⟨[8, 16], [], [17], [(.slot 28)]⟩ :: [])) (es' := [(_, _), (_, _), (28, .v (.bool false))]) (by kernel_rfl) rfl rfl
              ⟨st_plain rfl (op_move _ _ _ _ rfl rfl),
                st_plain rfl (op_bin _ _ _ _ _ rfl rfl rfl),
                st_plain rfl (op_move _ _ _ _ (congrArg (fun b => AV.v (Value.bool b)) hg4_2) rfl),
                st_skip 2 15 _ true rfl rfl rfl rfl (List.Mem.head _),
                st_skip 2 15 _ true rfl rfl rfl rfl (List.Mem.head _),
                st_plain rfl (op_pick _ _ false _ rfl rfl),
                st_plain rfl (op_move _ _ _ _ rfl rfl),
                st_run 6 19 false rfl rfl rfl (List.Mem.head _) (op_move _ _ _ _ rfl rfl),
                st_run 6 19 false rfl rfl rfl (List.Mem.head _) (op_bin _ _ _ _ _ rfl rfl rfl),
                st_run 6 19 false rfl rfl rfl (List.Mem.head _) (op_move _ _ _ _ (congrArg (fun b => AV.v (Value.bool b)) hg4_9) rfl),
                st_skip 9 22 _ true rfl rfl rfl rfl (List.Mem.head _),
                st_skip 9 22 _ true rfl rfl rfl rfl (List.Mem.head _),
                st_skip 9 22 _ true rfl rfl rfl rfl (List.Mem.head _),
                st_skip 9 22 _ true rfl rfl rfl rfl (List.Mem.head _),
                st_run 6 19 false rfl rfl rfl (List.Mem.head _) (op_pick _ _ false _ rfl rfl),
                st_plain rfl (op_pick _ _ false _ rfl rfl),
                trivial⟩ ?_
            exact hl32 _ (Option.some.inj h).symm

set_option maxHeartbeats 1000000 in
theorem ok_sym_dists (r : T_sym_scale) (h : Sh.sym_dists  = some r) : FnOK Try.prog 32 [] (.agg [.v (.int .i64 r.least), .v (.int .i64 r.singles), .v (.int .i64 r.group)]) := by
  unfold Sh.sym_dists at h
  refine fn_ok Try.func32 rfl (Nat.le_of_ble_eq_true rfl) rfl rfl fun g0 hn hio => ?_
  refine ht_seq ?_
  refine ht_seqR hn (El := [(0, .box 52 [.v (.int .i64 0), .v (.int .i64 0), .v (.int .i64 0)])]) (init := []) (fin := [0]) (sps := [⟨[], [], [0], [(.slot 0)]⟩]) (es' := [(0, .box 52 [.v (.int .i64 0), .v (.int .i64 0), .v (.int .i64 0)])]) (by kernel_rfl) rfl rfl
    ⟨st_plain rfl (op_alloc _ _ zr52),
      trivial⟩ ?_
  refine pt_then ?_
  refine ht_seq ?_
  refine ht_seqR hn (El := [_, (1, .agg [.v (.int .i64 1), .v (.int .i64 4), .v (.int .i64 2)]), (0, .box 52 [.v (.int .i64 1), .v (.int .i64 4), .v (.int .i64 2)])]) (init := [0]) (fin := [2]) (sps := [⟨[], [], [1], [(.slot 1)]⟩, ⟨[1], [0], [2], [.cell 0 0, .cell 0 1, .cell 0 2]⟩]) (es' := [(0, .box 52 [.v (.int .i64 1), .v (.int .i64 4), .v (.int .i64 2)])]) (by kernel_rfl) rfl rfl
    ⟨st_plain rfl (op_build _ _ _ _ [1, 1, 1] _ _ Try.underlying52 zr52 (fs52 _ Try.underlying52) (.copy _ (.copy _ (.copy _ Src.nil))) rfl rfl rfl),
      st_plain rfl (op_store _ _ _ _ _ _ _ _ sz52 rfl rfl rfl rfl (Nat.le_of_ble_eq_true rfl) rfl rfl),
      trivial⟩ ?_
  refine pt_then ?_
  refine ht_ret ?_
  obtain rfl := Option.some.inj h
  exact pt_ret hio rfl (.cellA _ _ _ _ Try.underlying52 rfl sz52 .nil) rfl rfl

set_option maxHeartbeats 1000000 in
theorem ok_sym_Dist (n : Int) (r : (Int × Int × Int × Int)) (h : Sh.sym_Dist n = some r) : FnOK Try.prog 11 [.v (.int .i64 n)] (.tup [.v (.int .i64 r.1), .v (.int .i64 r.2.1), .v (.int .i64 r.2.2.1), .v (.int .i64 r.2.2.2)]) := by
  unfold Sh.sym_Dist at h
  refine fn_ok Try.func11 rfl (Nat.le_of_ble_eq_true rfl) rfl rfl fun g0 hn hio => ?_
  refine ht_seq ?_
  refine ht_seqR hn (El := [_, (2, .v (.int .i64 0)), (3, .v (.int .i64 0)), (4, .v (.int .i64 0)), (5, .v (.int .i64 0))]) (init := [0]) (fin := [0]) (sps := [⟨[], [], [1], [(.slot 2)]⟩, ⟨[], [], [2], [(.slot 3)]⟩, ⟨[], [], [3], [(.slot 4)]⟩, ⟨[], [], [4], [(.slot 5)]⟩]) (es' := [(_, _)]) (by kernel_rfl) rfl rfl
    ⟨st_plain rfl (op_assign _ _ _ _ rfl rfl),
      st_plain rfl (op_assign _ _ _ _ rfl rfl),
      st_plain rfl (op_assign _ _ _ _ rfl rfl),
      st_plain rfl (op_assign _ _ _ _ rfl rfl),
      trivial⟩ ?_
  refine pt_then ?_
  refine ht_seq ?_
  refine ht_seq ?_
  refine ht_joinS h (fun (s1 : Bool) => [(0, .v (.int .i64 n)), (11, .v (.bool s1))]) ?_ ?_
  · rintro s1 h
    refine pt_then ?_
    refine ht_cond _ rfl (fun hb5 => ?_) (fun hb5 => ?_)
    · have h := cond_t hb5 h
      refine ht_seq ?_
      refine ht_seqR hn (El := [_, _, (2, .v (.int .i64 0)), (3, .v (.int .i64 0)), (4, .v (.int .i64 0)), (5, .v (.int .i64 1))]) (init := [0, 1]) (fin := [2, 3, 4, 5]) (sps := [⟨[], [], [2], [(.slot 2)]⟩, ⟨[], [], [3], [(.slot 3)]⟩, ⟨[], [], [4], [(.slot 4)]⟩, ⟨[], [], [5], [(.slot 5)]⟩]) (es' := [(2, .v (.int .i64 0)), (3, .v (.int .i64 0)), (4, .v (.int .i64 0)), (5, .v (.int .i64 1))]) (by kernel_rfl) rfl rfl
        ⟨st_plain rfl (op_assign _ _ _ _ rfl rfl),
          st_plain rfl (op_assign _ _ _ _ rfl rfl),
          st_plain rfl (op_assign _ _ _ _ rfl rfl),
          st_plain rfl (op_assign _ _ _ _ rfl rfl),
          trivial⟩ ?_
      refine pt_then ?_
      refine ht_ret ?_
      refine pt_r_then ?_
      obtain rfl := Option.some.inj h
      exact pt_ret hio rfl (.tmp _ _ (.tmp _ _ (.tmp _ _ (.tmp _ _ .nil)))) rfl rfl
    · have h := cond_f hb5 h
      refine ht_skip ?_
      refine pt_then ?_
      refine ht_seq ?_
      obtain ⟨v6, hv6, h⟩ := bind_some h
      obtain ⟨v7, hv7, h⟩ := bind_some h
      refine ht_seqR hn (El := [_, _, (13, .agg [.v (.int .i64 v6.least), .v (.int .i64 v6.singles), .v (.int .i64 v6.group)]), (14, .v (.int .i64 n)), (15, .tup [.v (.int .i64 v7.1), .v (.int .i64 v7.2.1), .v (.int .i64 v7.2.2)]), (12, .tup [.v (.int .i64 v7.1), .v (.int .i64 v7.2.1), .v (.int .i64 v7.2.2)]), (16, .v (.int .i64 v7.1)), (17, .v (.int .i64 v7.2.1)), (18, .v (.int .i64 v7.2.2)), (2, .v (.int .i64 v7.1)), (3, .v (.int .i64 v7.2.1)), (4, .v (.int .i64 v7.2.2))]) (init := [0, 1]) (fin := [9, 10, 11]) (sps := [⟨[], [], [2], [(.slot 13)]⟩, ⟨[0], [], [3], [(.slot 14)]⟩, ⟨[2, 3], [], [4], [(.slot 15)]⟩, ⟨[], [4], [5], [(.slot 12)]⟩, ⟨[5], [], [6], [(.slot 16)]⟩, ⟨[5], [], [7], [(.slot 17)]⟩, ⟨[5], [], [8], [(.slot 18)]⟩, ⟨[6], [], [9], [(.slot 2)]⟩, ⟨[7], [], [10], [(.slot 3)]⟩, ⟨[8], [], [11], [(.slot 4)]⟩]) (es' := [(2, .v (.int .i64 v7.1)), (3, .v (.int .i64 v7.2.1)), (4, .v (.int .i64 v7.2.2))]) (by kernel_rfl) rfl rfl
        ⟨st_plain rfl (op_call _ _ 32 _ _ rfl Try.call32 rfl (ok_sym_dists  _ hv6) rfl rfl),
          st_plain rfl (op_move _ _ _ _ rfl rfl),
          st_plain rfl (op_call _ _ 29 _ _ rfl Try.call29 rfl (ok_sym_scale_find v6 n _ hv7) rfl rfl),
          st_plain rfl (op_move_take _ _ _ _ rfl),
          st_plain rfl (op_extract _ _ _ _ _ rfl rfl (Nat.le_of_ble_eq_true rfl) rfl rfl),
          st_plain rfl (op_extract _ _ _ _ _ rfl rfl (Nat.le_of_ble_eq_true rfl) rfl rfl),
          st_plain rfl (op_extract _ _ _ _ _ rfl rfl (Nat.le_of_ble_eq_true rfl) rfl rfl),
          st_plain rfl (op_assign _ _ _ _ rfl rfl),
          st_plain rfl (op_assign _ _ _ _ rfl rfl),
          st_plain rfl (op_assign _ _ _ _ rfl rfl),
          trivial⟩ ?_
      refine pt_then ?_
      refine ht_seq ?_
      refine ht_seqR hn (El := [_, _, _, (19, .v (.int .i64 v7.1)), (20, .v (.int .i64 v7.2.1)), (21, .v (.int .i64 v7.2.2)), (2, .v (.int .i64 v7.1)), (3, .v (.int .i64 v7.2.1)), (4, .v (.int .i64 v7.2.2)), (5, .v (.int .i64 0))]) (init := [0, 1, 2]) (fin := [6, 7, 8, 9]) (sps := [⟨[0], [], [3], [(.slot 19)]⟩, ⟨[1], [], [4], [(.slot 20)]⟩, ⟨[2], [], [5], [(.slot 21)]⟩, ⟨[3], [0], [6], [(.slot 2)]⟩, ⟨[4], [1], [7], [(.slot 3)]⟩, ⟨[5], [2], [8], [(.slot 4)]⟩, ⟨[], [], [9], [(.slot 5)]⟩]) (es' := [(2, .v (.int .i64 v7.1)), (3, .v (.int .i64 v7.2.1)), (4, .v (.int .i64 v7.2.2)), (5, .v (.int .i64 0))]) (by kernel_rfl) rfl rfl
        ⟨st_plain rfl (op_move _ _ _ _ rfl rfl),
          st_plain rfl (op_move _ _ _ _ rfl rfl),
          st_plain rfl (op_move _ _ _ _ rfl rfl),
          st_plain rfl (LOp.drop [_] (op_assign _ _ _ _ rfl rfl)),
          st_plain rfl (LOp.drop [_] (op_assign _ _ _ _ rfl rfl)),
          st_plain rfl (LOp.drop [_] (op_assign _ _ _ _ rfl rfl)),
          st_plain rfl (op_assign _ _ _ _ rfl rfl),
          trivial⟩ ?_
      refine pt_then ?_
      refine ht_ret ?_
      obtain rfl := Option.some.inj h
      exact pt_ret hio rfl (.tmp _ _ (.tmp _ _ (.tmp _ _ (.tmp _ _ .nil)))) rfl rfl
  · intro u2 h hl3 hr4
    refine cond_some h (fun hg1_2 h => ?_) (fun hg1_2 h => ?_)
    · refine ht_seqR hn (El := [_, (6, .v (.int .i64 n)), (7, .v (.bool ((decide (n < 1))))), (8, .v (.bool true)), (9, .v undef), (10, .v undef), (11, .v (.bool true))]) (init := [0]) (fin := [0, 6]) (sps := [⟨[0], [], [1], [(.slot 6)]⟩, ⟨[1], [], [2], [(.slot 7)]⟩, ⟨[2], [], [3], [(.slot 8)]⟩, ⟨[3], [], [4], [(.slot 9)]⟩, ⟨[3], [], [5], [(.slot 10)]⟩, ⟨[3], [], [6], [(.slot 11)]⟩]) (es' := [(_, _), (11, .v (.bool true))]) (by kernel_rfl) rfl rfl
        ⟨st_plain rfl (op_move _ _ _ _ rfl rfl),
          st_plain rfl (op_bin _ _ _ _ _ rfl rfl rfl),
          st_plain rfl (op_move _ _ _ _ (congrArg (fun b => AV.v (Value.bool b)) hg1_2) rfl),
          st_skip 2 8 _ false rfl rfl rfl rfl (List.Mem.head _),
          st_skip 2 8 _ false rfl rfl rfl rfl (List.Mem.head _),
          st_plain rfl (op_pick _ _ true _ rfl rfl),
          trivial⟩ ?_
      exact hl3 _ (Option.some.inj h).symm
    · refine ht_seqR hn (El := [_, (6, .v (.int .i64 n)), (7, .v (.bool ((decide (n < 1))))), (8, .v (.bool false)), (9, .v (.int .i64 n)), (10, .v (.bool ((decide (32768 < n))))), (11, .v (.bool ((decide (32768 < n)))))]) (init := [0]) (fin := [0, 6]) (sps := [⟨[0], [], [1], [(.slot 6)]⟩, ⟨[1], [], [2], [(.slot 7)]⟩, ⟨[2], [], [3], [(.slot 8)]⟩, ⟨[3, 0], [], [4], [(.slot 9)]⟩, ⟨[3, 4], [], [5], [(.slot 10)]⟩, ⟨[3, 5], [], [6], [(.slot 11)]⟩]) (es' := [(_, _), (11, .v (.bool ((decide (32768 < n)))))]) (by kernel_rfl) rfl rfl
        ⟨st_plain rfl (op_move _ _ _ _ rfl rfl),
          st_plain rfl (op_bin _ _ _ _ _ rfl rfl rfl),
          st_plain rfl (op_move _ _ _ _ (congrArg (fun b => AV.v (Value.bool b)) hg1_2) rfl),
          st_run 2 8 false rfl rfl rfl (List.Mem.head _) (op_move _ _ _ _ rfl rfl),
          st_run 2 8 false rfl rfl rfl (List.Mem.head _) (op_bin _ _ _ _ _ rfl rfl rfl),
          st_plain rfl (op_pick _ _ false _ rfl rfl),
          trivial⟩ ?_
      exact hl3 _ (Option.some.inj h).symm

set_option maxHeartbeats 1000000 in
theorem ok_wherryref01_DistOf (sym : Int) (r : (Int × Int × Int)) (h : Sh.wherryref01_DistOf sym = some r) : FnOK Try.prog 16 [.v (.int .i64 sym)] (.tup [.v (.int .i64 r.1), .v (.int .i64 r.2.1), .v (.int .i64 r.2.2)]) := by
  unfold Sh.wherryref01_DistOf at h
  refine fn_ok Try.func16 rfl (Nat.le_of_ble_eq_true rfl) rfl rfl fun g0 hn hio => ?_
  refine ht_seq ?_
  refine ht_seqR hn (El := [_, (2, .v (.int .i64 0)), (3, .v (.int .i64 0)), (4, .v (.int .i64 0))]) (init := [0]) (fin := [0]) (sps := [⟨[], [], [1], [(.slot 2)]⟩, ⟨[], [], [2], [(.slot 3)]⟩, ⟨[], [], [3], [(.slot 4)]⟩]) (es' := [(_, _)]) (by kernel_rfl) rfl rfl
    ⟨st_plain rfl (op_assign _ _ _ _ rfl rfl),
      st_plain rfl (op_assign _ _ _ _ rfl rfl),
      st_plain rfl (op_assign _ _ _ _ rfl rfl),
      trivial⟩ ?_
  refine pt_then ?_
  refine ht_seq ?_
  refine ht_seq ?_
  obtain ⟨v1, hv1, h⟩ := bind_some h
  refine ht_seqR hn (El := [_, (6, .v (.int .i64 sym)), (7, .v (.bool v1)), (8, .v (.bool (!v1)))]) (init := [0]) (fin := [0, 3]) (sps := [⟨[0], [], [1], [(.slot 6)]⟩, ⟨[1], [], [2], [(.slot 7)]⟩, ⟨[2], [], [3], [(.slot 8)]⟩]) (es' := [(_, _), (8, .v (.bool (!v1)))]) (by kernel_rfl) rfl rfl
    ⟨st_plain rfl (op_move _ _ _ _ rfl rfl),
      st_plain rfl (op_call _ _ 30 _ _ rfl Try.call30 rfl (ok_wherryref01_in sym 0 29 _ hv1) rfl rfl),
      st_plain rfl (op_un _ _ _ _ rfl rfl),
      trivial⟩ ?_
  refine pt_then ?_
  refine ht_cond _ rfl (fun hb2 => ?_) (fun hb2 => ?_)
  · have h := cond_t hb2 h
    refine ht_seq ?_
    refine ht_seqR hn (El := [_, _, (2, .v (.int .i64 0)), (3, .v (.int .i64 0)), (4, .v (.int .i64 1))]) (init := [0, 1]) (fin := [2, 3, 4]) (sps := [⟨[], [], [2], [(.slot 2)]⟩, ⟨[], [], [3], [(.slot 3)]⟩, ⟨[], [], [4], [(.slot 4)]⟩]) (es' := [(2, .v (.int .i64 0)), (3, .v (.int .i64 0)), (4, .v (.int .i64 1))]) (by kernel_rfl) rfl rfl
      ⟨st_plain rfl (op_assign _ _ _ _ rfl rfl),
        st_plain rfl (op_assign _ _ _ _ rfl rfl),
        st_plain rfl (op_assign _ _ _ _ rfl rfl),
        trivial⟩ ?_
    refine pt_then ?_
    refine ht_ret ?_
    refine pt_r_then ?_
    obtain rfl := Option.some.inj h
    exact pt_ret hio rfl (.tmp _ _ (.tmp _ _ (.tmp _ _ .nil))) rfl rfl
  · have h := cond_f hb2 h
    refine ht_skip ?_
    refine pt_then ?_
    refine ht_seq ?_
    refine ht_seq ?_
    refine ht_seqR hn (El := [_, _, (9, .v (.int .i64 sym)), (10, .v (.bool ((decide (sym < 4)))))]) (init := [0, 1]) (fin := [0, 3]) (sps := [⟨[0], [], [2], [(.slot 9)]⟩, ⟨[2], [], [3], [(.slot 10)]⟩]) (es' := [(_, _), (10, .v (.bool ((decide (sym < 4)))))]) (by kernel_rfl) rfl rfl
      ⟨st_plain rfl (op_move _ _ _ _ rfl rfl),
        st_plain rfl (op_bin _ _ _ _ _ rfl rfl rfl),
        trivial⟩ ?_
    refine pt_then ?_
    refine ht_cond _ rfl (fun hb3 => ?_) (fun hb3 => ?_)
    · have h := cond_t hb3 h
      refine ht_seq ?_
      obtain ⟨v4, hv4, h⟩ := bind_some h
      refine ht_seqR hn (El := [_, _, (11, .v (.int .i64 sym)), (12, .v (.int .i64 v4)), (2, .v (.int .i64 v4)), (3, .v (.int .i64 0)), (4, .v (.int .i64 0))]) (init := [0, 1]) (fin := [4, 5, 6]) (sps := [⟨[0], [], [2], [(.slot 11)]⟩, ⟨[2], [], [3], [(.slot 12)]⟩, ⟨[3], [], [4], [(.slot 2)]⟩, ⟨[], [], [5], [(.slot 3)]⟩, ⟨[], [], [6], [(.slot 4)]⟩]) (es' := [(2, .v (.int .i64 v4)), (3, .v (.int .i64 0)), (4, .v (.int .i64 0))]) (by kernel_rfl) rfl rfl
        ⟨st_plain rfl (op_move _ _ _ _ rfl rfl),
          st_plain rfl (op_bin _ _ _ _ _ rfl rfl (ibind (f := Value.int .i64) (Option.some.inj hv4))),
          st_plain rfl (op_assign _ _ _ _ rfl rfl),
          st_plain rfl (op_assign _ _ _ _ rfl rfl),
          st_plain rfl (op_assign _ _ _ _ rfl rfl),
          trivial⟩ ?_
      refine pt_then ?_
      refine ht_ret ?_
      refine pt_r_then ?_
      obtain rfl := Option.some.inj h
      exact pt_ret hio rfl (.tmp _ _ (.tmp _ _ (.tmp _ _ .nil))) rfl rfl
    · have h := cond_f hb3 h
      refine ht_skip ?_
      refine pt_then ?_
      refine ht_seq ?_
      obtain ⟨v5, hv5, h⟩ := bind_some h
      obtain ⟨v6, hv6, h⟩ := bind_some h
      refine ht_seqR hn (El := [_, _, (13, .v (.int .i64 sym)), (14, .v (.int .i64 v5)), (15, .v (.int .i64 v6)), (5, .v (.int .i64 v6))]) (init := [0, 1]) (fin := [0, 5]) (sps := [⟨[0], [], [2], [(.slot 13)]⟩, ⟨[2], [], [3], [(.slot 14)]⟩, ⟨[3], [], [4], [(.slot 15)]⟩, ⟨[4], [], [5], [(.slot 5)]⟩]) (es' := [(_, _), (5, .v (.int .i64 v6))]) (by kernel_rfl) rfl rfl
        ⟨st_plain rfl (op_move _ _ _ _ rfl rfl),
          st_plain rfl (op_bin _ _ _ _ _ rfl rfl (ibind (f := Value.int .i64) (Option.some.inj hv5))),
          st_plain rfl (op_bin _ _ _ _ _ rfl rfl (quo_ok hv6)),
          st_plain rfl (op_assign _ _ _ _ rfl rfl),
          trivial⟩ ?_
      refine pt_then ?_
      refine ht_seq ?_
      obtain ⟨v7, hv7, h⟩ := bind_some h
      obtain ⟨v8, hv8, h⟩ := bind_some h
      obtain ⟨v9, hv9, h⟩ := bind_some h
      obtain ⟨v10, hv10, h⟩ := bind_some h
      obtain ⟨v11, hv11, h⟩ := bind_some h
      refine ht_seqR hn (El := [_, _, (16, .v (.int .i64 sym)), (17, .v (.int .i64 v7)), (18, .v (.int .i64 v8)), (19, .v (.int .i64 v6)), (20, .v (.int .u64 v9)), (21, .v (.int .i64 v10)), (22, .v (.int .i64 v11)), (23, .v (.int .i64 v6)), (2, .v (.int .i64 v11)), (3, .v (.int .i64 v6)), (4, .v (.int .i64 0))]) (init := [0, 1]) (fin := [10, 11, 12]) (sps := [⟨[0], [], [2], [(.slot 16)]⟩, ⟨[2], [], [3], [(.slot 17)]⟩, ⟨[3], [], [4], [(.slot 18)]⟩, ⟨[1], [], [5], [(.slot 19)]⟩, ⟨[5], [], [6], [(.slot 20)]⟩, ⟨[4, 6], [], [7], [(.slot 21)]⟩, ⟨[7], [], [8], [(.slot 22)]⟩, ⟨[1], [], [9], [(.slot 23)]⟩, ⟨[8], [], [10], [(.slot 2)]⟩, ⟨[9], [], [11], [(.slot 3)]⟩, ⟨[], [], [12], [(.slot 4)]⟩]) (es' := [(2, .v (.int .i64 v11)), (3, .v (.int .i64 v6)), (4, .v (.int .i64 0))]) (by kernel_rfl) rfl rfl
        ⟨st_plain rfl (op_move _ _ _ _ rfl rfl),
          st_plain rfl (op_bin _ _ _ _ _ rfl rfl (rem_ok hv7)),
          st_plain rfl (op_bin _ _ _ _ _ rfl rfl (ibind (f := Value.int .i64) (Option.some.inj hv8))),
          st_plain rfl (op_move _ _ _ _ rfl rfl),
          st_plain rfl ((Option.some.inj hv9) ▸ op_conv _ _ _ Try.underlying3 Try.underlying38 rfl),
          st_plain rfl (op_bin _ _ _ _ _ rfl rfl (shl_ok hv10)),
          st_plain rfl (op_bin _ _ _ _ _ rfl rfl (ibind (f := Value.int .i64) (Option.some.inj hv11))),
          st_plain rfl (op_move _ _ _ _ rfl rfl),
          st_plain rfl (op_assign _ _ _ _ rfl rfl),
          st_plain rfl (op_assign _ _ _ _ rfl rfl),
          st_plain rfl (op_assign _ _ _ _ rfl rfl),
          trivial⟩ ?_
      refine pt_then ?_
      refine ht_ret ?_
      obtain rfl := Option.some.inj h
      exact pt_ret hio rfl (.tmp _ _ (.tmp _ _ (.tmp _ _ .nil))) rfl rfl

set_option maxHeartbeats 1000000 in
theorem ok_wherryref01_Dist (n : Int) (r : (Int × Int × Int × Int)) (h : Sh.wherryref01_Dist n = some r) : FnOK Try.prog 12 [.v (.int .i64 n)] (.tup [.v (.int .i64 r.1), .v (.int .i64 r.2.1), .v (.int .i64 r.2.2.1), .v (.int .i64 r.2.2.2)]) := by
  unfold Sh.wherryref01_Dist at h
  refine fn_ok Try.func12 rfl (Nat.le_of_ble_eq_true rfl) rfl rfl fun g0 hn hio => ?_
  refine ht_seq ?_
  refine ht_seqR hn (El := [_, (2, .v (.int .i64 0)), (3, .v (.int .i64 0)), (4, .v (.int .i64 0)), (5, .v (.int .i64 0))]) (init := [0]) (fin := [0]) (sps := [⟨[], [], [1], [(.slot 2)]⟩, ⟨[], [], [2], [(.slot 3)]⟩, ⟨[], [], [3], [(.slot 4)]⟩, ⟨[], [], [4], [(.slot 5)]⟩]) (es' := [(_, _)]) (by kernel_rfl) rfl rfl
    ⟨st_plain rfl (op_assign _ _ _ _ rfl rfl),
      st_plain rfl (op_assign _ _ _ _ rfl rfl),
      st_plain rfl (op_assign _ _ _ _ rfl rfl),
      st_plain rfl (op_assign _ _ _ _ rfl rfl),
      trivial⟩ ?_
  refine pt_then ?_
  refine ht_seq ?_
  refine ht_seq ?_
  obtain ⟨v1, hv1, h⟩ := bind_some h
  refine ht_seqR hn (El := [_, (10, .v (.int .i64 n)), (11, .v (.bool v1)), (12, .v (.bool (!v1)))]) (init := [0]) (fin := [0, 3]) (sps := [⟨[0], [], [1], [(.slot 10)]⟩, ⟨[1], [], [2], [(.slot 11)]⟩, ⟨[2], [], [3], [(.slot 12)]⟩]) (es' := [(_, _), (12, .v (.bool (!v1)))]) (by kernel_rfl) rfl rfl
    ⟨st_plain rfl (op_move _ _ _ _ rfl rfl),
      st_plain rfl (op_call _ _ 30 _ _ rfl Try.call30 rfl (ok_wherryref01_in n 1 32768 _ hv1) rfl rfl),
      st_plain rfl (op_un _ _ _ _ rfl rfl),
      trivial⟩ ?_
  refine pt_then ?_
  refine ht_cond _ rfl (fun hb2 => ?_) (fun hb2 => ?_)
  · have h := cond_t hb2 h
    refine ht_seq ?_
    refine ht_seqR hn (El := [_, _, (2, .v (.int .i64 0)), (3, .v (.int .i64 0)), (4, .v (.int .i64 0)), (5, .v (.int .i64 1))]) (init := [0, 1]) (fin := [2, 3, 4, 5]) (sps := [⟨[], [], [2], [(.slot 2)]⟩, ⟨[], [], [3], [(.slot 3)]⟩, ⟨[], [], [4], [(.slot 4)]⟩, ⟨[], [], [5], [(.slot 5)]⟩]) (es' := [(2, .v (.int .i64 0)), (3, .v (.int .i64 0)), (4, .v (.int .i64 0)), (5, .v (.int .i64 1))]) (by kernel_rfl) rfl rfl
      ⟨st_plain rfl (op_assign _ _ _ _ rfl rfl),
        st_plain rfl (op_assign _ _ _ _ rfl rfl),
        st_plain rfl (op_assign _ _ _ _ rfl rfl),
        st_plain rfl (op_assign _ _ _ _ rfl rfl),
        trivial⟩ ?_
    refine pt_then ?_
    refine ht_ret ?_
    refine pt_r_then ?_
    obtain rfl := Option.some.inj h
    exact pt_ret hio rfl (.tmp _ _ (.tmp _ _ (.tmp _ _ (.tmp _ _ .nil)))) rfl rfl
  · have h := cond_f hb2 h
    refine ht_skip ?_
    refine pt_then ?_
    refine ht_seq ?_
    refine ht_seq ?_
    refine ht_seqR hn (El := [_, _, (6, .v (.int .i64 29))]) (init := [0, 1]) (fin := [0, 2]) (sps := [⟨[], [], [2], [(.slot 6)]⟩]) (es' := [(_, _), (6, .v (.int .i64 29))]) (by kernel_rfl) rfl rfl
      ⟨st_plain rfl (op_assign _ _ _ _ rfl rfl),
        trivial⟩ ?_
    refine pt_then ?_
    refine ht_loopS h (fun (s11 : Int) => [(0, .v (.int .i64 n)), (6, .v (.int .i64 s11))]) (fun (() : Unit) => []) ?_ ?_
    · rintro ⟨⟩ h
      refine pt_then ?_
      refine ht_seq ?_
      refine ht_seqR hn (El := [(2, .v (.int .i64 0)), (3, .v (.int .i64 0)), (4, .v (.int .i64 0)), (5, .v (.int .i64 0))]) (init := []) (fin := [0, 1, 2, 3]) (sps := [⟨[], [], [0], [(.slot 2)]⟩, ⟨[], [], [1], [(.slot 3)]⟩, ⟨[], [], [2], [(.slot 4)]⟩, ⟨[], [], [3], [(.slot 5)]⟩]) (es' := [(2, .v (.int .i64 0)), (3, .v (.int .i64 0)), (4, .v (.int .i64 0)), (5, .v (.int .i64 0))]) (by kernel_rfl) rfl rfl
        ⟨st_plain rfl (op_assign _ _ _ _ rfl rfl),
          st_plain rfl (op_assign _ _ _ _ rfl rfl),
          st_plain rfl (op_assign _ _ _ _ rfl rfl),
          st_plain rfl (op_assign _ _ _ _ rfl rfl),
          trivial⟩ ?_
      refine pt_then ?_
      refine ht_ret ?_
      obtain rfl := Option.some.inj h
      exact pt_ret hio rfl (.tmp _ _ (.tmp _ _ (.tmp _ _ (.tmp _ _ .nil)))) rfl rfl
    · rintro u14 hl15 hr16 s11 rr19 h ho17
      refine ht_seq ?_
      refine ht_seq ?_
      refine ht_seqR hn (El := [_, _, (13, .v (.int .i64 s11)), (14, .v (.bool ((decide (0 < s11)))))]) (init := [0, 1]) (fin := [0, 1, 3]) (sps := [⟨[1], [], [2], [(.slot 13)]⟩, ⟨[2], [], [3], [(.slot 14)]⟩]) (es' := [(_, _), (_, _), (14, .v (.bool ((decide (0 < s11)))))]) (by kernel_rfl) rfl rfl
        ⟨st_plain rfl (op_move _ _ _ _ rfl rfl),
          st_plain rfl (op_bin _ _ _ _ _ rfl rfl rfl),
          trivial⟩ ?_
      refine pt_then ?_
      refine ht_cond _ rfl (fun hb20 => ?_) (fun hb20 => ?_)
      · have h := cond_t hb20 h
        refine ht_skip ?_
        refine pt_then ?_
        refine ht_seq ?_
        refine ht_block ?_
        refine ht_seq ?_
        obtain ⟨v4, hv4, h⟩ := bind_some h
        refine ht_seqR hn (El := [_, _, _, (18, .v (.int .i64 s11)), (19, .tup [.v (.int .i64 v4.1), .v (.int .i64 v4.2.1), .v (.int .i64 v4.2.2)]), (17, .tup [.v (.int .i64 v4.1), .v (.int .i64 v4.2.1), .v (.int .i64 v4.2.2)]), (20, .v (.int .i64 v4.1)), (21, .v (.int .i64 v4.2.1)), (22, .v (.int .i64 v4.2.2)), (7, .v (.int .i64 v4.1)), (8, .v (.int .i64 v4.2.1)), (9, .v (.int .i64 v4.2.2))]) (init := [0, 1, 2]) (fin := [0, 1, 9, 10]) (sps := [⟨[1], [], [3], [(.slot 18)]⟩, ⟨[3], [], [4], [(.slot 19)]⟩, ⟨[], [4], [5], [(.slot 17)]⟩, ⟨[5], [], [6], [(.slot 20)]⟩, ⟨[5], [], [7], [(.slot 21)]⟩, ⟨[5], [], [8], [(.slot 22)]⟩, ⟨[6], [], [9], [(.slot 7)]⟩, ⟨[7], [], [10], [(.slot 8)]⟩, ⟨[8], [], [11], [(.slot 9)]⟩]) (es' := [(_, _), (_, _), (7, .v (.int .i64 v4.1)), (8, .v (.int .i64 v4.2.1))]) (by kernel_rfl) rfl rfl
          ⟨st_plain rfl (op_move _ _ _ _ rfl rfl),
            st_plain rfl (op_call _ _ 16 _ _ rfl Try.call16 rfl (ok_wherryref01_DistOf s11 _ hv4) rfl rfl),
            st_plain rfl (op_move_take _ _ _ _ rfl),
            st_plain rfl (op_extract _ _ _ _ _ rfl rfl (Nat.le_of_ble_eq_true rfl) rfl rfl),
            st_plain rfl (op_extract _ _ _ _ _ rfl rfl (Nat.le_of_ble_eq_true rfl) rfl rfl),
            st_plain rfl (op_extract _ _ _ _ _ rfl rfl (Nat.le_of_ble_eq_true rfl) rfl rfl),
            st_plain rfl (op_assign _ _ _ _ rfl rfl),
            st_plain rfl (op_assign _ _ _ _ rfl rfl),
            st_plain rfl (op_assign _ _ _ _ rfl rfl),
            trivial⟩ ?_
        refine pt_then ?_
        refine ht_seq ?_
        refine ht_seqR hn (El := [_, _, _, _, (23, .v (.int .i64 v4.1)), (24, .v (.int .i64 n)), (25, .v (.bool ((decide (v4.1 ≤ n)))))]) (init := [0, 1, 2, 3]) (fin := [0, 1, 2, 3, 6]) (sps := [⟨[2], [], [4], [(.slot 23)]⟩, ⟨[0], [], [5], [(.slot 24)]⟩, ⟨[4, 5], [], [6], [(.slot 25)]⟩]) (es' := [(_, _), (_, _), (_, _), (_, _), (25, .v (.bool ((decide (v4.1 ≤ n)))))]) (by kernel_rfl) rfl rfl
          ⟨st_plain rfl (op_move _ _ _ _ rfl rfl),
            st_plain rfl (op_move _ _ _ _ rfl rfl),
            st_plain rfl (op_bin _ _ _ _ _ rfl rfl rfl),
            trivial⟩ ?_
        refine pt_then ?_
        refine ht_cond _ rfl (fun hb21 => ?_) (fun hb21 => ?_)
        · have h := cond_t hb21 h
          refine ht_seq ?_
          obtain ⟨v6, hv6, h⟩ := bind_some h
          refine ht_seqR hn (El := [_, _, _, _, _, (26, .v (.int .i64 s11)), (27, .v (.int .i64 v4.2.1)), (28, .v (.int .i64 n)), (29, .v (.int .i64 v4.1)), (30, .v (.int .i64 v6)), (2, .v (.int .i64 s11)), (3, .v (.int .i64 v4.2.1)), (4, .v (.int .i64 v6)), (5, .v (.int .i64 0))]) (init := [0, 1, 2, 3, 4]) (fin := [10, 11, 12, 13]) (sps := [⟨[1], [], [5], [(.slot 26)]⟩, ⟨[3], [], [6], [(.slot 27)]⟩, ⟨[0], [], [7], [(.slot 28)]⟩, ⟨[2], [], [8], [(.slot 29)]⟩, ⟨[7, 8], [], [9], [(.slot 30)]⟩, ⟨[5], [], [10], [(.slot 2)]⟩, ⟨[6], [], [11], [(.slot 3)]⟩, ⟨[9], [], [12], [(.slot 4)]⟩, ⟨[], [], [13], [(.slot 5)]⟩]) (es' := [(2, .v (.int .i64 s11)), (3, .v (.int .i64 v4.2.1)), (4, .v (.int .i64 v6)), (5, .v (.int .i64 0))]) (by kernel_rfl) rfl rfl
            ⟨st_plain rfl (op_move _ _ _ _ rfl rfl),
              st_plain rfl (op_move _ _ _ _ rfl rfl),
              st_plain rfl (op_move _ _ _ _ rfl rfl),
              st_plain rfl (op_move _ _ _ _ rfl rfl),
              st_plain rfl (op_bin _ _ _ _ _ rfl rfl (ibind (f := Value.int .i64) (Option.some.inj hv6))),
              st_plain rfl (op_assign _ _ _ _ rfl rfl),
              st_plain rfl (op_assign _ _ _ _ rfl rfl),
              st_plain rfl (op_assign _ _ _ _ rfl rfl),
              st_plain rfl (op_assign _ _ _ _ rfl rfl),
              trivial⟩ ?_
          refine pt_then ?_
          refine ht_ret ?_
          refine pt_r_in ?_
          refine pt_r_then ?_
          refine pt_r_then ?_
          refine pt_r_in ?_
          refine pt_r_then ?_
          have h := hr16 _ (ho17 _ (Option.some.inj h).symm).symm
          obtain rfl := Option.some.inj h
          exact pt_ret hio rfl (.tmp _ _ (.tmp _ _ (.tmp _ _ (.tmp _ _ .nil)))) rfl rfl
        · have h := cond_f hb21 h
          refine ht_skip ?_
          refine pt_inb ?_
          refine pt_then ?_
          obtain ⟨v7, hv7, h⟩ := bind_some h
          refine ht_seqR hn (El := [_, _, _, _, _, (15, .v (.int .i64 s11)), (16, .v (.int .i64 v7)), (6, .v (.int .i64 v7))]) (init := [0, 1, 2, 3, 4]) (fin := [0, 7]) (sps := [⟨[1], [], [5], [(.slot 15)]⟩, ⟨[5], [], [6], [(.slot 16)]⟩, ⟨[6], [1], [7], [(.slot 6)]⟩]) (es' := [(_, _), (6, .v (.int .i64 v7))]) (by kernel_rfl) rfl rfl
            ⟨st_plain rfl (op_move _ _ _ _ rfl rfl),
              st_plain rfl (op_bin _ _ _ _ _ rfl rfl (ibind (f := Value.int .i64) (Option.some.inj hv7))),
              st_plain rfl (LOp.drop [_] (op_assign _ _ _ _ rfl rfl)),
              trivial⟩ ?_
          exact pt_next _ (Option.some.inj h).symm rfl
      · have h := cond_f hb20 h
        refine ht_exit ?_
        refine pt_x_then ?_
        refine pt_x_then ?_
        refine pt_x_in ?_
        refine pt_pick [] (by kernel_rfl) (es' := []) rfl ?_
        exact hl15 _ (ho17 _ (Option.some.inj h).symm).symm

set_option maxHeartbeats 1000000 in
theorem ok_sym_LenOf (sym : Int) (r : (Int × Int × Int)) (h : Sh.sym_LenOf sym = some r) : FnOK Try.prog 13 [.v (.int .i64 sym)] (.tup [.v (.int .i64 r.1), .v (.int .i64 r.2.1), .v (.int .i64 r.2.2)]) := by
  unfold Sh.sym_LenOf at h
  refine fn_ok Try.func13 rfl (Nat.le_of_ble_eq_true rfl) rfl rfl fun g0 hn hio => ?_
  refine ht_seq ?_
  refine ht_seqR hn (El := [_, (2, .v (.int .i64 0)), (3, .v (.int .i64 0)), (4, .v (.int .i64 0))]) (init := [0]) (fin := [0]) (sps := [⟨[], [], [1], [(.slot 2)]⟩, ⟨[], [], [2], [(.slot 3)]⟩, ⟨[], [], [3], [(.slot 4)]⟩]) (es' := [(_, _)]) (by kernel_rfl) rfl rfl
    ⟨st_plain rfl (op_assign _ _ _ _ rfl rfl),
      st_plain rfl (op_assign _ _ _ _ rfl rfl),
      st_plain rfl (op_assign _ _ _ _ rfl rfl),
      trivial⟩ ?_
  refine pt_then ?_
  refine ht_seq ?_
  refine ht_seq ?_
  refine ht_joinS h (fun (s1 : Bool) => [(0, .v (.int .i64 sym)), (10, .v (.bool s1))]) ?_ ?_
  · rintro s1 h
    refine pt_then ?_
    refine ht_cond _ rfl (fun hb5 => ?_) (fun hb5 => ?_)
    · have h := cond_t hb5 h
      refine ht_seq ?_
      refine ht_seqR hn (El := [_, _, (2, .v (.int .i64 0)), (3, .v (.int .i64 0)), (4, .v (.int .i64 1))]) (init := [0, 1]) (fin := [2, 3, 4]) (sps := [⟨[], [], [2], [(.slot 2)]⟩, ⟨[], [], [3], [(.slot 3)]⟩, ⟨[], [], [4], [(.slot 4)]⟩]) (es' := [(2, .v (.int .i64 0)), (3, .v (.int .i64 0)), (4, .v (.int .i64 1))]) (by kernel_rfl) rfl rfl
        ⟨st_plain rfl (op_assign _ _ _ _ rfl rfl),
          st_plain rfl (op_assign _ _ _ _ rfl rfl),
          st_plain rfl (op_assign _ _ _ _ rfl rfl),
          trivial⟩ ?_
      refine pt_then ?_
      refine ht_ret ?_
      refine pt_r_then ?_
      obtain rfl := Option.some.inj h
      exact pt_ret hio rfl (.tmp _ _ (.tmp _ _ (.tmp _ _ .nil))) rfl rfl
    · have h := cond_f hb5 h
      refine ht_skip ?_
      refine pt_then ?_
      refine ht_seq ?_
      refine ht_seq ?_
      refine ht_seqR hn (El := [_, _, (11, .v (.int .i64 sym)), (12, .v (.bool (sym == 285)))]) (init := [0, 1]) (fin := [0, 3]) (sps := [⟨[0], [], [2], [(.slot 11)]⟩, ⟨[2], [], [3], [(.slot 12)]⟩]) (es' := [(_, _), (12, .v (.bool (sym == 285)))]) (by kernel_rfl) rfl rfl
        ⟨st_plain rfl (op_move _ _ _ _ rfl rfl),
          st_plain rfl (op_bin _ _ _ _ _ rfl rfl rfl),
          trivial⟩ ?_
      refine pt_then ?_
      refine ht_cond _ rfl (fun hb6 => ?_) (fun hb6 => ?_)
      · have h := cond_t hb6 h
        refine ht_seq ?_
        refine ht_seqR hn (El := [_, _, (2, .v (.int .i64 258)), (3, .v (.int .i64 0)), (4, .v (.int .i64 0))]) (init := [0, 1]) (fin := [2, 3, 4]) (sps := [⟨[], [], [2], [(.slot 2)]⟩, ⟨[], [], [3], [(.slot 3)]⟩, ⟨[], [], [4], [(.slot 4)]⟩]) (es' := [(2, .v (.int .i64 258)), (3, .v (.int .i64 0)), (4, .v (.int .i64 0))]) (by kernel_rfl) rfl rfl
          ⟨st_plain rfl (op_assign _ _ _ _ rfl rfl),
            st_plain rfl (op_assign _ _ _ _ rfl rfl),
            st_plain rfl (op_assign _ _ _ _ rfl rfl),
            trivial⟩ ?_
        refine pt_then ?_
        refine ht_ret ?_
        refine pt_r_then ?_
        obtain rfl := Option.some.inj h
        exact pt_ret hio rfl (.tmp _ _ (.tmp _ _ (.tmp _ _ .nil))) rfl rfl
      · have h := cond_f hb6 h
        refine ht_skip ?_
        refine pt_then ?_
        refine ht_seq ?_
        obtain ⟨v7, hv7, h⟩ := bind_some h
        obtain ⟨v8, hv8, h⟩ := bind_some h
        obtain ⟨v9, hv9, h⟩ := bind_some h
        refine ht_seqR hn (El := [_, _, (14, .agg [.v (.int .i64 v7.least), .v (.int .i64 v7.singles), .v (.int .i64 v7.group)]), (15, .v (.int .i64 sym)), (16, .v (.int .i64 v8)), (17, .tup [.v (.int .i64 v9.1), .v (.int .i64 v9.2)]), (13, .tup [.v (.int .i64 v9.1), .v (.int .i64 v9.2)]), (18, .v (.int .i64 v9.1)), (19, .v (.int .i64 v9.2)), (2, .v (.int .i64 v9.1)), (3, .v (.int .i64 v9.2))]) (init := [0, 1]) (fin := [9, 10]) (sps := [⟨[], [], [2], [(.slot 14)]⟩, ⟨[0], [], [3], [(.slot 15)]⟩, ⟨[3], [], [4], [(.slot 16)]⟩, ⟨[2, 4], [], [5], [(.slot 17)]⟩, ⟨[], [5], [6], [(.slot 13)]⟩, ⟨[6], [], [7], [(.slot 18)]⟩, ⟨[6], [], [8], [(.slot 19)]⟩, ⟨[7], [], [9], [(.slot 2)]⟩, ⟨[8], [], [10], [(.slot 3)]⟩]) (es' := [(2, .v (.int .i64 v9.1)), (3, .v (.int .i64 v9.2))]) (by kernel_rfl) rfl rfl
          ⟨st_plain rfl (op_call _ _ 28 _ _ rfl Try.call28 rfl (ok_sym_lens  _ hv7) rfl rfl),
            st_plain rfl (op_move _ _ _ _ rfl rfl),
            st_plain rfl (op_bin _ _ _ _ _ rfl rfl (ibind (f := Value.int .i64) (Option.some.inj hv8))),
            st_plain rfl (op_call _ _ 33 _ _ rfl Try.call33 rfl (ok_sym_scale_symbol v7 v8 _ hv9) rfl rfl),
            st_plain rfl (op_move_take _ _ _ _ rfl),
            st_plain rfl (op_extract _ _ _ _ _ rfl rfl (Nat.le_of_ble_eq_true rfl) rfl rfl),
            st_plain rfl (op_extract _ _ _ _ _ rfl rfl (Nat.le_of_ble_eq_true rfl) rfl rfl),
            st_plain rfl (op_assign _ _ _ _ rfl rfl),
            st_plain rfl (op_assign _ _ _ _ rfl rfl),
            trivial⟩ ?_
        refine pt_then ?_
        refine ht_seq ?_
        refine ht_seqR hn (El := [_, _, (20, .v (.int .i64 v9.1)), (21, .v (.int .i64 v9.2)), (2, .v (.int .i64 v9.1)), (3, .v (.int .i64 v9.2)), (4, .v (.int .i64 0))]) (init := [0, 1]) (fin := [4, 5, 6]) (sps := [⟨[0], [], [2], [(.slot 20)]⟩, ⟨[1], [], [3], [(.slot 21)]⟩, ⟨[2], [0], [4], [(.slot 2)]⟩, ⟨[3], [1], [5], [(.slot 3)]⟩, ⟨[], [], [6], [(.slot 4)]⟩]) (es' := [(2, .v (.int .i64 v9.1)), (3, .v (.int .i64 v9.2)), (4, .v (.int .i64 0))]) (by kernel_rfl) rfl rfl
          ⟨st_plain rfl (op_move _ _ _ _ rfl rfl),
            st_plain rfl (op_move _ _ _ _ rfl rfl),
            st_plain rfl (LOp.drop [_] (op_assign _ _ _ _ rfl rfl)),
            st_plain rfl (LOp.drop [_] (op_assign _ _ _ _ rfl rfl)),
            st_plain rfl (op_assign _ _ _ _ rfl rfl),
            trivial⟩ ?_
        refine pt_then ?_
        refine ht_ret ?_
        obtain rfl := Option.some.inj h
        exact pt_ret hio rfl (.tmp _ _ (.tmp _ _ (.tmp _ _ .nil))) rfl rfl
  · intro u2 h hl3 hr4
    refine cond_some h (fun hg1_2 h => ?_) (fun hg1_2 h => ?_)
    · refine ht_seqR hn (El := [_, (5, .v (.int .i64 sym)), (6, .v (.bool ((decide (sym < 257))))), (7, .v (.bool true)), (8, .v undef), (9, .v undef), (10, .v (.bool true))]) (init := [0]) (fin := [0, 6]) (sps := [⟨[0], [], [1], [(.slot 5)]⟩, ⟨[1], [], [2], [(.slot 6)]⟩, ⟨[2], [], [3], [(.slot 7)]⟩, ⟨[3], [], [4], [(.slot 8)]⟩, ⟨[3], [], [5], [(.slot 9)]⟩, ⟨[3], [], [6], [(.slot 10)]⟩]) (es' := [(_, _), (10, .v (.bool true))]) (by kernel_rfl) rfl rfl
        ⟨st_plain rfl (op_move _ _ _ _ rfl rfl),
          st_plain rfl (op_bin _ _ _ _ _ rfl rfl rfl),
          st_plain rfl (op_move _ _ _ _ (congrArg (fun b => AV.v (Value.bool b)) hg1_2) rfl),
          st_skip 2 7 _ false rfl rfl rfl rfl (List.Mem.head _),
          st_skip 2 7 _ false rfl rfl rfl rfl (List.Mem.head _),
          st_plain rfl (op_pick _ _ true _ rfl rfl),
          trivial⟩ ?_
      exact hl3 _ (Option.some.inj h).symm
    · refine ht_seqR hn (El := [_, (5, .v (.int .i64 sym)), (6, .v (.bool ((decide (sym < 257))))), (7, .v (.bool false)), (8, .v (.int .i64 sym)), (9, .v (.bool ((decide (285 < sym))))), (10, .v (.bool ((decide (285 < sym)))))]) (init := [0]) (fin := [0, 6]) (sps := [⟨[0], [], [1], [(.slot 5)]⟩, ⟨[1], [], [2], [(.slot 6)]⟩, ⟨[2], [], [3], [(.slot 7)]⟩, ⟨[3, 0], [], [4], [(.slot 8)]⟩, ⟨[3, 4], [], [5], [(.slot 9)]⟩, ⟨[3, 5], [], [6], [(.slot 10)]⟩]) (es' := [(_, _), (10, .v (.bool ((decide (285 < sym)))))]) (by kernel_rfl) rfl rfl
        ⟨st_plain rfl (op_move _ _ _ _ rfl rfl),
          st_plain rfl (op_bin _ _ _ _ _ rfl rfl rfl),
          st_plain rfl (op_move _ _ _ _ (congrArg (fun b => AV.v (Value.bool b)) hg1_2) rfl),
          st_run 2 7 false rfl rfl rfl (List.Mem.head _) (op_move _ _ _ _ rfl rfl),
          st_run 2 7 false rfl rfl rfl (List.Mem.head _) (op_bin _ _ _ _ _ rfl rfl rfl),
          st_plain rfl (op_pick _ _ false _ rfl rfl),
          trivial⟩ ?_
      exact hl3 _ (Option.some.inj h).symm

set_option maxHeartbeats 1000000 in
theorem ok_sym_DistOf (sym : Int) (r : (Int × Int × Int)) (h : Sh.sym_DistOf sym = some r) : FnOK Try.prog 15 [.v (.int .i64 sym)] (.tup [.v (.int .i64 r.1), .v (.int .i64 r.2.1), .v (.int .i64 r.2.2)]) := by
  unfold Sh.sym_DistOf at h
  refine fn_ok Try.func15 rfl (Nat.le_of_ble_eq_true rfl) rfl rfl fun g0 hn hio => ?_
  refine ht_seq ?_
  refine ht_seqR hn (El := [_, (2, .v (.int .i64 0)), (3, .v (.int .i64 0)), (4, .v (.int .i64 0))]) (init := [0]) (fin := [0]) (sps := [⟨[], [], [1], [(.slot 2)]⟩, ⟨[], [], [2], [(.slot 3)]⟩, ⟨[], [], [3], [(.slot 4)]⟩]) (es' := [(_, _)]) (by kernel_rfl) rfl rfl
    ⟨st_plain rfl (op_assign _ _ _ _ rfl rfl),
      st_plain rfl (op_assign _ _ _ _ rfl rfl),
      st_plain rfl (op_assign _ _ _ _ rfl rfl),
      trivial⟩ ?_
  refine pt_then ?_
  refine ht_seq ?_
  refine ht_seq ?_
  refine ht_joinS h (fun (s1 : Bool) => [(0, .v (.int .i64 sym)), (10, .v (.bool s1))]) ?_ ?_
  · rintro s1 h
    refine pt_then ?_
    refine ht_cond _ rfl (fun hb5 => ?_) (fun hb5 => ?_)
    · have h := cond_t hb5 h
      refine ht_seq ?_
      refine ht_seqR hn (El := [_, _, (2, .v (.int .i64 0)), (3, .v (.int .i64 0)), (4, .v (.int .i64 1))]) (init := [0, 1]) (fin := [2, 3, 4]) (sps := [⟨[], [], [2], [(.slot 2)]⟩, ⟨[], [], [3], [(.slot 3)]⟩, ⟨[], [], [4], [(.slot 4)]⟩]) (es' := [(2, .v (.int .i64 0)), (3, .v (.int .i64 0)), (4, .v (.int .i64 1))]) (by kernel_rfl) rfl rfl
        ⟨st_plain rfl (op_assign _ _ _ _ rfl rfl),
          st_plain rfl (op_assign _ _ _ _ rfl rfl),
          st_plain rfl (op_assign _ _ _ _ rfl rfl),
          trivial⟩ ?_
      refine pt_then ?_
      refine ht_ret ?_
      refine pt_r_then ?_
      obtain rfl := Option.some.inj h
      exact pt_ret hio rfl (.tmp _ _ (.tmp _ _ (.tmp _ _ .nil))) rfl rfl
    · have h := cond_f hb5 h
      refine ht_skip ?_
      refine pt_then ?_
      refine ht_seq ?_
      obtain ⟨v6, hv6, h⟩ := bind_some h
      obtain ⟨v7, hv7, h⟩ := bind_some h
      refine ht_seqR hn (El := [_, _, (12, .agg [.v (.int .i64 v6.least), .v (.int .i64 v6.singles), .v (.int .i64 v6.group)]), (13, .v (.int .i64 sym)), (14, .tup [.v (.int .i64 v7.1), .v (.int .i64 v7.2)]), (11, .tup [.v (.int .i64 v7.1), .v (.int .i64 v7.2)]), (15, .v (.int .i64 v7.1)), (16, .v (.int .i64 v7.2)), (2, .v (.int .i64 v7.1)), (3, .v (.int .i64 v7.2))]) (init := [0, 1]) (fin := [8, 9]) (sps := [⟨[], [], [2], [(.slot 12)]⟩, ⟨[0], [], [3], [(.slot 13)]⟩, ⟨[2, 3], [], [4], [(.slot 14)]⟩, ⟨[], [4], [5], [(.slot 11)]⟩, ⟨[5], [], [6], [(.slot 15)]⟩, ⟨[5], [], [7], [(.slot 16)]⟩, ⟨[6], [], [8], [(.slot 2)]⟩, ⟨[7], [], [9], [(.slot 3)]⟩]) (es' := [(2, .v (.int .i64 v7.1)), (3, .v (.int .i64 v7.2))]) (by kernel_rfl) rfl rfl
        ⟨st_plain rfl (op_call _ _ 32 _ _ rfl Try.call32 rfl (ok_sym_dists  _ hv6) rfl rfl),
          st_plain rfl (op_move _ _ _ _ rfl rfl),
          st_plain rfl (op_call _ _ 33 _ _ rfl Try.call33 rfl (ok_sym_scale_symbol v6 sym _ hv7) rfl rfl),
          st_plain rfl (op_move_take _ _ _ _ rfl),
          st_plain rfl (op_extract _ _ _ _ _ rfl rfl (Nat.le_of_ble_eq_true rfl) rfl rfl),
          st_plain rfl (op_extract _ _ _ _ _ rfl rfl (Nat.le_of_ble_eq_true rfl) rfl rfl),
          st_plain rfl (op_assign _ _ _ _ rfl rfl),
          st_plain rfl (op_assign _ _ _ _ rfl rfl),
          trivial⟩ ?_
      refine pt_then ?_
      refine ht_seq ?_
      refine ht_seqR hn (El := [_, _, (17, .v (.int .i64 v7.1)), (18, .v (.int .i64 v7.2)), (2, .v (.int .i64 v7.1)), (3, .v (.int .i64 v7.2)), (4, .v (.int .i64 0))]) (init := [0, 1]) (fin := [4, 5, 6]) (sps := [⟨[0], [], [2], [(.slot 17)]⟩, ⟨[1], [], [3], [(.slot 18)]⟩, ⟨[2], [0], [4], [(.slot 2)]⟩, ⟨[3], [1], [5], [(.slot 3)]⟩, ⟨[], [], [6], [(.slot 4)]⟩]) (es' := [(2, .v (.int .i64 v7.1)), (3, .v (.int .i64 v7.2)), (4, .v (.int .i64 0))]) (by kernel_rfl) rfl rfl
        ⟨st_plain rfl (op_move _ _ _ _ rfl rfl),
          st_plain rfl (op_move _ _ _ _ rfl rfl),
          st_plain rfl (LOp.drop [_] (op_assign _ _ _ _ rfl rfl)),
          st_plain rfl (LOp.drop [_] (op_assign _ _ _ _ rfl rfl)),
          st_plain rfl (op_assign _ _ _ _ rfl rfl),
          trivial⟩ ?_
      refine pt_then ?_
      refine ht_ret ?_
      obtain rfl := Option.some.inj h
      exact pt_ret hio rfl (.tmp _ _ (.tmp _ _ (.tmp _ _ .nil))) rfl rfl
  · intro u2 h hl3 hr4
    refine cond_some h (fun hg1_2 h => ?_) (fun hg1_2 h => ?_)
    · refine ht_seqR hn (El := [_, (5, .v (.int .i64 sym)), (6, .v (.bool ((decide (sym < 0))))), (7, .v (.bool true)), (8, .v undef), (9, .v undef), (10, .v (.bool true))]) (init := [0]) (fin := [0, 6]) (sps := [⟨[0], [], [1], [(.slot 5)]⟩, ⟨[1], [], [2], [(.slot 6)]⟩, ⟨[2], [], [3], [(.slot 7)]⟩, ⟨[3], [], [4], [(.slot 8)]⟩, ⟨[3], [], [5], [(.slot 9)]⟩, ⟨[3], [], [6], [(.slot 10)]⟩]) (es' := [(_, _), (10, .v (.bool true))]) (by kernel_rfl) rfl rfl
        ⟨st_plain rfl (op_move _ _ _ _ rfl rfl),
          st_plain rfl (op_bin _ _ _ _ _ rfl rfl rfl),
          st_plain rfl (op_move _ _ _ _ (congrArg (fun b => AV.v (Value.bool b)) hg1_2) rfl),
          st_skip 2 7 _ false rfl rfl rfl rfl (List.Mem.head _),
          st_skip 2 7 _ false rfl rfl rfl rfl (List.Mem.head _),
          st_plain rfl (op_pick _ _ true _ rfl rfl),
          trivial⟩ ?_
      exact hl3 _ (Option.some.inj h).symm
    · refine ht_seqR hn (El := [_, (5, .v (.int .i64 sym)), (6, .v (.bool ((decide (sym < 0))))), (7, .v (.bool false)), (8, .v (.int .i64 sym)), (9, .v (.bool ((decide (30 ≤ sym))))), (10, .v (.bool ((decide (30 ≤ sym)))))]) (init := [0]) (fin := [0, 6]) (sps := [⟨[0], [], [1], [(.slot 5)]⟩, ⟨[1], [], [2], [(.slot 6)]⟩, ⟨[2], [], [3], [(.slot 7)]⟩, ⟨[3, 0], [], [4], [(.slot 8)]⟩, ⟨[3, 4], [], [5], [(.slot 9)]⟩, ⟨[3, 5], [], [6], [(.slot 10)]⟩]) (es' := [(_, _), (10, .v (.bool ((decide (30 ≤ sym)))))]) (by kernel_rfl) rfl rfl
        ⟨st_plain rfl (op_move _ _ _ _ rfl rfl),
          st_plain rfl (op_bin _ _ _ _ _ rfl rfl rfl),
          st_plain rfl (op_move _ _ _ _ (congrArg (fun b => AV.v (Value.bool b)) hg1_2) rfl),
          st_run 2 7 false rfl rfl rfl (List.Mem.head _) (op_move _ _ _ _ rfl rfl),
          st_run 2 7 false rfl rfl rfl (List.Mem.head _) (op_bin _ _ _ _ _ rfl rfl rfl),
          st_plain rfl (op_pick _ _ false _ rfl rfl),
          trivial⟩ ?_
      exact hl3 _ (Option.some.inj h).symm

set_option maxHeartbeats 1000000 in
theorem ok_sym_fixedLen (s : Int) (r : Int) (h : Sh.sym_fixedLen s = some r) : FnOK Try.prog 34 [.v (.int .i64 s)] (.v (.int .i64 r)) := by
  unfold Sh.sym_fixedLen at h
  refine fn_ok Try.func34 rfl (Nat.le_of_ble_eq_true rfl) rfl rfl fun g0 hn hio => ?_
  refine ht_seq ?_
  refine ht_seqR hn (El := [_, (2, .v (.int .i64 0))]) (init := [0]) (fin := [0]) (sps := [⟨[], [], [1], [(.slot 2)]⟩]) (es' := [(_, _)]) (by kernel_rfl) rfl rfl
    ⟨st_plain rfl (op_assign _ _ _ _ rfl rfl),
      trivial⟩ ?_
  refine pt_then ?_
  refine ht_seq ?_
  refine ht_block ?_
  refine ht_seq ?_
  refine ht_seqR hn (El := [_, (4, .v (.int .i64 s)), (5, .v (.bool ((decide (s < 144))))), (3, .v (.bool ((decide (s < 144)))))]) (init := [0]) (fin := [0, 3]) (sps := [⟨[0], [], [1], [(.slot 4)]⟩, ⟨[1], [], [2], [(.slot 5)]⟩, ⟨[2], [], [3], [(.slot 3)]⟩]) (es' := [(_, _), (3, .v (.bool ((decide (s < 144)))))]) (by kernel_rfl) rfl rfl
    ⟨st_plain rfl (op_move _ _ _ _ rfl rfl),
      st_plain rfl (op_bin _ _ _ _ _ rfl rfl rfl),
      st_plain rfl (op_assign _ _ _ _ rfl rfl),
      trivial⟩ ?_
  refine pt_then ?_
  refine ht_cond _ rfl (fun hb1 => ?_) (fun hb1 => ?_)
  · have h := cond_t hb1 h
    refine ht_seq ?_
    refine ht_seqR hn (El := [_, _, (2, .v (.int .i64 8))]) (init := [0, 1]) (fin := [2]) (sps := [⟨[], [], [2], [(.slot 2)]⟩]) (es' := [(2, .v (.int .i64 8))]) (by kernel_rfl) rfl rfl
      ⟨st_plain rfl (op_assign _ _ _ _ rfl rfl),
        trivial⟩ ?_
    refine pt_then ?_
    refine ht_ret ?_
    refine pt_r_in ?_
    refine pt_r_then ?_
    obtain rfl := Option.some.inj h
    exact pt_ret hio rfl (.tmp _ _ .nil) rfl rfl
  · have h := cond_f hb1 h
    refine ht_seq ?_
    refine ht_seqR hn (El := [_, _, (7, .v (.int .i64 s)), (8, .v (.bool ((decide (s < 256))))), (6, .v (.bool ((decide (s < 256)))))]) (init := [0, 1]) (fin := [0, 4]) (sps := [⟨[0], [], [2], [(.slot 7)]⟩, ⟨[2], [], [3], [(.slot 8)]⟩, ⟨[3], [], [4], [(.slot 6)]⟩]) (es' := [(_, _), (6, .v (.bool ((decide (s < 256)))))]) (by kernel_rfl) rfl rfl
      ⟨st_plain rfl (op_move _ _ _ _ rfl rfl),
        st_plain rfl (op_bin _ _ _ _ _ rfl rfl rfl),
        st_plain rfl (op_assign _ _ _ _ rfl rfl),
        trivial⟩ ?_
    refine pt_then ?_
    refine ht_cond _ rfl (fun hb2 => ?_) (fun hb2 => ?_)
    · have h := cond_t hb2 h
      refine ht_seq ?_
      refine ht_seqR hn (El := [_, _, (2, .v (.int .i64 9))]) (init := [0, 1]) (fin := [2]) (sps := [⟨[], [], [2], [(.slot 2)]⟩]) (es' := [(2, .v (.int .i64 9))]) (by kernel_rfl) rfl rfl
        ⟨st_plain rfl (op_assign _ _ _ _ rfl rfl),
          trivial⟩ ?_
      refine pt_then ?_
      refine ht_ret ?_
      refine pt_r_in ?_
      refine pt_r_then ?_
      obtain rfl := Option.some.inj h
      exact pt_ret hio rfl (.tmp _ _ .nil) rfl rfl
    · have h := cond_f hb2 h
      refine ht_seq ?_
      refine ht_seqR hn (El := [_, _, (10, .v (.int .i64 s)), (11, .v (.bool ((decide (s < 280))))), (9, .v (.bool ((decide (s < 280)))))]) (init := [0, 1]) (fin := [4]) (sps := [⟨[0], [], [2], [(.slot 10)]⟩, ⟨[2], [], [3], [(.slot 11)]⟩, ⟨[3], [], [4], [(.slot 9)]⟩]) (es' := [(9, .v (.bool ((decide (s < 280)))))]) (by kernel_rfl) rfl rfl
        ⟨st_plain rfl (op_move _ _ _ _ rfl rfl),
          st_plain rfl (op_bin _ _ _ _ _ rfl rfl rfl),
          st_plain rfl (op_assign _ _ _ _ rfl rfl),
          trivial⟩ ?_
      refine pt_then ?_
      refine ht_cond _ rfl (fun hb3 => ?_) (fun hb3 => ?_)
      · have h := cond_t hb3 h
        refine ht_seq ?_
        refine ht_seqR hn (El := [_, (2, .v (.int .i64 7))]) (init := [0]) (fin := [1]) (sps := [⟨[], [], [1], [(.slot 2)]⟩]) (es' := [(2, .v (.int .i64 7))]) (by kernel_rfl) rfl rfl
          ⟨st_plain rfl (op_assign _ _ _ _ rfl rfl),
            trivial⟩ ?_
        refine pt_then ?_
        refine ht_ret ?_
        refine pt_r_in ?_
        refine pt_r_then ?_
        obtain rfl := Option.some.inj h
        exact pt_ret hio rfl (.tmp _ _ .nil) rfl rfl
      · have h := cond_f hb3 h
        refine ht_skip ?_
        refine pt_inb ?_
        refine pt_then ?_
        refine ht_seq ?_
        refine ht_seqR hn (El := [_, (2, .v (.int .i64 8))]) (init := [0]) (fin := [1]) (sps := [⟨[], [], [1], [(.slot 2)]⟩]) (es' := [(2, .v (.int .i64 8))]) (by kernel_rfl) rfl rfl
          ⟨st_plain rfl (op_assign _ _ _ _ rfl rfl),
            trivial⟩ ?_
        refine pt_then ?_
        refine ht_ret ?_
        obtain rfl := Option.some.inj h
        exact pt_ret hio rfl (.tmp _ _ .nil) rfl rfl

set_option maxHeartbeats 1000000 in
theorem ok_sym_Fixed (r : ((List Int) × (List Int))) (h : Sh.sym_Fixed  = some r) : FnOK Try.prog 17 [] (.tup [.fl (.own 3) 1 (List.map (Value.int .i64) r.1), .fl (.own 3) 1 (List.map (Value.int .i64) r.2)]) := by
  unfold Sh.sym_Fixed at h
  refine fn_ok Try.func17 rfl (Nat.le_of_ble_eq_true rfl) rfl rfl fun g0 hn hio => ?_
  refine ht_seq ?_
  refine ht_seqR hn (El := [(0, .v (.slice none 0 0)), (1, .v (.slice none 0 0))]) (init := []) (fin := [0, 1]) (sps := [⟨[], [], [0], [(.slot 0)]⟩, ⟨[], [], [1], [(.slot 1)]⟩]) (es' := [(0, .v (.slice none 0 0)), (1, .v (.slice none 0 0))]) (by kernel_rfl) rfl rfl
    ⟨st_plain rfl (op_assign _ _ _ _ rfl rfl),
      st_plain rfl (op_assign _ _ _ _ rfl rfl),
      trivial⟩ ?_
  refine pt_then ?_
  refine ht_seq ?_
  refine ht_seq ?_
  refine ht_seqR hn (El := [_, _, (3, .v (.int .i64 0))]) (init := [0, 1]) (fin := [0, 1, 2]) (sps := [⟨[], [], [2], [(.slot 3)]⟩]) (es' := [(_, _), (_, _), (3, .v (.int .i64 0))]) (by kernel_rfl) rfl rfl
    ⟨st_plain rfl (op_move _ _ _ _ rfl rfl),
      trivial⟩ ?_
  refine pt_then ?_
  refine ht_sub (fs := [(0, .fl (.own 3) 1 (List.map (Value.int .i64) [])), (1, .v (.slice none 0 0)), (3, .v (.int .i64 0))]) (.sub _ (sub_nil 3 1) rfl (.same _ (.same _ .nil))) ?_
  refine ht_loopS h (fun ((s8, s9) : (List Int) × Int) => [(0, .fl (.own 3) 1 (List.map (Value.int .i64) s8)), (1, .v (.slice none 0 0)), (3, .v (.int .i64 s9))]) (fun (s11 : (List Int)) => [(0, .fl (.own 3) 1 (List.map (Value.int .i64) s11)), (1, .v (.slice none 0 0))]) ?_ ?_
  · rintro s11 h
    refine pt_then ?_
    refine ht_seq ?_
    refine ht_seq ?_
    refine ht_seqR hn (El := [_, _, (12, .v (.int .i64 0))]) (init := [0, 1]) (fin := [0, 1, 2]) (sps := [⟨[], [], [2], [(.slot 12)]⟩]) (es' := [(_, _), (_, _), (12, .v (.int .i64 0))]) (by kernel_rfl) rfl rfl
      ⟨st_plain rfl (op_move _ _ _ _ rfl rfl),
        trivial⟩ ?_
    refine pt_then ?_
    refine ht_sub (fs := [(0, .fl (.own 3) 1 (List.map (Value.int .i64) s11)), (1, .fl (.own 3) 1 (List.map (Value.int .i64) [])), (12, .v (.int .i64 0))]) (.same _ (.sub _ (sub_nil 3 1) rfl (.same _ .nil))) ?_
    refine ht_loopS h (fun ((s25, s26) : (List Int) × Int) => [(0, .fl (.own 3) 1 (List.map (Value.int .i64) s11)), (1, .fl (.own 3) 1 (List.map (Value.int .i64) s25)), (12, .v (.int .i64 s26))]) (fun (s28 : (List Int)) => [(0, .fl (.own 3) 1 (List.map (Value.int .i64) s11)), (1, .fl (.own 3) 1 (List.map (Value.int .i64) s28))]) ?_ ?_
    · rintro s28 h
      refine pt_then ?_
      refine ht_seq ?_
      refine ht_seqR hn (El := [_, _, (18, .fl (.own 3) 1 (List.map (Value.int .i64) s11)), (19, .fl (.own 3) 1 (List.map (Value.int .i64) s28)), (0, .fl (.own 3) 1 (List.map (Value.int .i64) s11)), (1, .fl (.own 3) 1 (List.map (Value.int .i64) s28))]) (init := [0, 1]) (fin := [4, 5]) (sps := [⟨[], [0], [2], [(.slot 18)]⟩, ⟨[], [1], [3], [(.slot 19)]⟩, ⟨[], [2], [4], [(.slot 0)]⟩, ⟨[], [3], [5], [(.slot 1)]⟩]) (es' := [(0, .fl (.own 3) 1 (List.map (Value.int .i64) s11)), (1, .fl (.own 3) 1 (List.map (Value.int .i64) s28))]) (by kernel_rfl) rfl rfl
        ⟨st_plain rfl (op_move_take _ _ _ _ rfl),
          st_plain rfl (op_move_take _ _ _ _ rfl),
          st_plain rfl (op_assign_take _ _ _ _ rfl),
          st_plain rfl (op_assign_take _ _ _ _ rfl),
          trivial⟩ ?_
      refine pt_then ?_
      refine ht_ret ?_
      obtain rfl := Option.some.inj h
      exact pt_ret hio rfl (.tmp _ _ (.tmp _ _ .nil)) rfl rfl
    · rintro u29 hl30 hr31 ⟨s25, s26⟩ rr34 h ho32
      refine ht_seq ?_
      refine ht_seqR hn (El := [_, _, _, (13, .v (.bool ((decide (s26 < 32)))))]) (init := [0, 1, 2]) (fin := [0, 1, 2, 3]) (sps := [⟨[2], [], [3], [(.slot 13)]⟩]) (es' := [(_, _), (_, _), (_, _), (13, .v (.bool ((decide (s26 < 32)))))]) (by kernel_rfl) rfl rfl
        ⟨st_plain rfl (op_bin _ _ _ _ _ rfl rfl rfl),
          trivial⟩ ?_
      refine pt_then ?_
      refine ht_seq ?_
      refine ht_cond _ rfl (fun hb35 => ?_) (fun hb35 => ?_)
      · have h := cond_t hb35 h
        refine ht_skip ?_
        refine pt_then ?_
        refine ht_seq ?_
        refine ht_block ?_
        obtain ⟨v20, hv20, h⟩ := bind_some h
        refine ht_seqR hn (El := [_, _, _, _, (14, .fl (.own 3) 1 (List.map (Value.int .i64) s25)), (15, .fl (.own 3) 1 (List.map (Value.int .i64) [5])), (16, .fl (.own 3) 1 (List.map (Value.int .i64) v20)), (14, .any), (1, .fl (.own 3) 1 (List.map (Value.int .i64) v20))]) (init := [0, 1, 2, 3]) (fin := [0, 2, 8]) (sps := [⟨[], [1], [4], [(.slot 14)]⟩, ⟨[], [], [5], [(.slot 15)]⟩, ⟨[5], [4], [7, 6], [(.slot 16)]⟩, ⟨[], [6], [8], [(.slot 1)]⟩]) (es' := [(_, _), (_, _), (1, .fl (.own 3) 1 (List.map (Value.int .i64) v20))]) (by kernel_rfl) rfl rfl
          ⟨st_plain rfl (op_move_take _ _ _ _ rfl),
            st_plain rfl (op_buildSlice _ _ 1 (.int .i64 0) (List.map (Value.int .i64) [5]) [(0, .int .i64 5)] Try.underlying28 sz3 zr3 (fun _ V w o a hv hes => by simp only [List.map_toArray, List.map_cons, List.map_nil]; try rfl) (litfill (by simp [Instr.fill, Value.cells]; rfl) (by simp [List.range, List.range.loop])) (by simp [Value.oneCell']) rfl (by decide) (by decide) (by decide)),
            st_plain rfl (op_app _ _ _ _ _ el28 rfl rfl (map_len _) (map_len _) hv20 ((List.map_append).symm.trans (congrArg (List.map _) (app_eq hv20)))),
            st_plain rfl (op_assign_take _ _ _ _ rfl),
            trivial⟩ ?_
        refine pt_inb ?_
        refine pt_then ?_
        obtain ⟨v21, hv21, h⟩ := bind_some h
        refine ht_seqR hn (El := [_, _, _, (17, .v (.int .i64 v21)), (12, .v (.int .i64 v21))]) (init := [0, 1, 2]) (fin := [0, 2, 4]) (sps := [⟨[1], [], [3], [(.slot 17)]⟩, ⟨[3], [1], [4], [(.slot 12)]⟩]) (es' := [(_, _), (_, _), (12, .v (.int .i64 v21))]) (by kernel_rfl) rfl rfl
          ⟨st_plain rfl (op_bin _ _ _ _ _ rfl rfl (ibind (f := Value.int .i64) (Option.some.inj hv21))),
            st_plain rfl (LOp.drop [_] (op_move _ _ _ _ rfl rfl)),
            trivial⟩ ?_
        exact pt_next _ (Option.some.inj h).symm rfl
      · have h := cond_f hb35 h
        refine ht_exit ?_
        refine pt_x_then ?_
        refine pt_x_then ?_
        refine pt_x_in ?_
        refine pt_pick [0, 1] (by kernel_rfl) (es' := [(_, _), (_, _)]) rfl ?_
        exact hl30 _ (ho32 _ (Option.some.inj h).symm).symm
  · rintro u12 hl13 hr14 ⟨s8, s9⟩ rr17 h ho15
    refine ht_seq ?_
    refine ht_seqR hn (El := [_, _, _, (4, .v (.bool ((decide (s9 < 288)))))]) (init := [0, 1, 2]) (fin := [0, 1, 2, 3]) (sps := [⟨[2], [], [3], [(.slot 4)]⟩]) (es' := [(_, _), (_, _), (_, _), (4, .v (.bool ((decide (s9 < 288)))))]) (by kernel_rfl) rfl rfl
      ⟨st_plain rfl (op_bin _ _ _ _ _ rfl rfl rfl),
        trivial⟩ ?_
    refine pt_then ?_
    refine ht_seq ?_
    refine ht_cond _ rfl (fun hb18 => ?_) (fun hb18 => ?_)
    · have h := cond_t hb18 h
      refine ht_skip ?_
      refine pt_then ?_
      refine ht_seq ?_
      refine ht_block ?_
      refine ht_seq ?_
      refine ht_seqR hn (El := [_, _, _, _, (5, .v (.int .i64 s9)), (2, .v (.int .i64 s9))]) (init := [0, 1, 2, 3]) (fin := [0, 1, 2, 5]) (sps := [⟨[2], [], [4], [(.slot 5)]⟩, ⟨[4], [], [5], [(.slot 2)]⟩]) (es' := [(_, _), (_, _), (_, _), (2, .v (.int .i64 s9))]) (by kernel_rfl) rfl rfl
        ⟨st_plain rfl (op_move _ _ _ _ rfl rfl),
          st_plain rfl (op_assign _ _ _ _ rfl rfl),
          trivial⟩ ?_
      refine pt_then ?_
      obtain ⟨v2, hv2, h⟩ := bind_some h
      obtain ⟨v3, hv3, h⟩ := bind_some h
      refine ht_seqR hn (El := [_, _, _, _, (6, .fl (.own 3) 1 (List.map (Value.int .i64) s8)), (7, .v (.int .i64 s9)), (8, .v (.int .i64 v2)), (9, .fl (.own 3) 1 (List.map (Value.int .i64) [v2])), (10, .fl (.own 3) 1 (List.map (Value.int .i64) v3)), (6, .any), (0, .fl (.own 3) 1 (List.map (Value.int .i64) v3))]) (init := [0, 1, 2, 3]) (fin := [1, 2, 10]) (sps := [⟨[], [0], [4], [(.slot 6)]⟩, ⟨[3], [], [5], [(.slot 7)]⟩, ⟨[5], [], [6], [(.slot 8)]⟩, ⟨[6], [], [7], [(.slot 9)]⟩, ⟨[7], [4], [9, 8], [(.slot 10)]⟩, ⟨[], [8], [10], [(.slot 0)]⟩]) (es' := [(_, _), (_, _), (0, .fl (.own 3) 1 (List.map (Value.int .i64) v3))]) (by kernel_rfl) rfl rfl
        ⟨st_plain rfl (op_move_take _ _ _ _ rfl),
          st_plain rfl (op_move _ _ _ _ rfl rfl),
          st_plain rfl (op_call _ _ 34 _ _ rfl Try.call34 rfl (ok_sym_fixedLen s9 _ hv2) rfl rfl),
          st_plain rfl (op_buildSlice _ _ 1 (.int .i64 0) (List.map (Value.int .i64) [v2]) [(0, .int .i64 v2)] Try.underlying28 sz3 zr3 (fun _ V w o a hv hes => by have e0 := rd_v hv hes (x := .tmp 8) rfl; simp only [List.map_toArray, List.map_cons, List.map_nil, e0]; try rfl) (litfill (by simp [Instr.fill, Value.cells]; rfl) (by simp [List.range, List.range.loop])) (by simp [Value.oneCell']) rfl (by decide) (by decide) (by decide)),
          st_plain rfl (op_app _ _ _ _ _ el28 rfl rfl (map_len _) (map_len _) hv3 ((List.map_append).symm.trans (congrArg (List.map _) (app_eq hv3)))),
          st_plain rfl (op_assign_take _ _ _ _ rfl),
          trivial⟩ ?_
      refine pt_inb ?_
      refine pt_then ?_
      obtain ⟨v4, hv4, h⟩ := bind_some h
      refine ht_seqR hn (El := [_, _, _, (11, .v (.int .i64 v4)), (3, .v (.int .i64 v4))]) (init := [0, 1, 2]) (fin := [0, 2, 4]) (sps := [⟨[1], [], [3], [(.slot 11)]⟩, ⟨[3], [1], [4], [(.slot 3)]⟩]) (es' := [(_, _), (_, _), (3, .v (.int .i64 v4))]) (by kernel_rfl) rfl rfl
        ⟨st_plain rfl (op_bin _ _ _ _ _ rfl rfl (ibind (f := Value.int .i64) (Option.some.inj hv4))),
          st_plain rfl (LOp.drop [_] (op_move _ _ _ _ rfl rfl)),
          trivial⟩ ?_
      refine pt_pick [1, 0, 2] (by kernel_rfl) (es' := [(_, _), (_, _), (_, _)]) rfl ?_
      exact pt_next _ (Option.some.inj h).symm rfl
    · have h := cond_f hb18 h
      refine ht_exit ?_
      refine pt_x_then ?_
      refine pt_x_then ?_
      refine pt_x_in ?_
      refine pt_pick [0, 1] (by kernel_rfl) (es' := [(_, _), (_, _)]) rfl ?_
      exact hl13 _ (ho15 _ (Option.some.inj h).symm).symm

set_option maxHeartbeats 1000000 in
theorem ok_wherryref01_Fixed (r : ((List Int) × (List Int))) (h : Sh.wherryref01_Fixed  = some r) : FnOK Try.prog 18 [] (.tup [.fl (.own 3) 1 (List.map (Value.int .i64) r.1), .fl (.own 3) 1 (List.map (Value.int .i64) r.2)]) := by
  unfold Sh.wherryref01_Fixed at h
  refine fn_ok Try.func18 rfl (Nat.le_of_ble_eq_true rfl) rfl rfl fun g0 hn hio => ?_
  refine ht_seq ?_
  refine ht_seqR hn (El := [(0, .v (.slice none 0 0)), (1, .v (.slice none 0 0))]) (init := []) (fin := []) (sps := [⟨[], [], [0], [(.slot 0)]⟩, ⟨[], [], [1], [(.slot 1)]⟩]) (es' := []) (by kernel_rfl) rfl rfl
    ⟨st_plain rfl (op_assign _ _ _ _ rfl rfl),
      st_plain rfl (op_assign _ _ _ _ rfl rfl),
      trivial⟩ ?_
  refine pt_then ?_
  refine ht_seq ?_
  refine ht_seqR hn (El := [(2, .v (.slice none 0 0)), (3, .v (.slice none 0 0))]) (init := []) (fin := [0, 1]) (sps := [⟨[], [], [0], [(.slot 2)]⟩, ⟨[], [], [1], [(.slot 3)]⟩]) (es' := [(2, .v (.slice none 0 0)), (3, .v (.slice none 0 0))]) (by kernel_rfl) rfl rfl
    ⟨st_plain rfl (op_assign _ _ _ _ rfl rfl),
      st_plain rfl (op_assign _ _ _ _ rfl rfl),
      trivial⟩ ?_
  refine pt_then ?_
  refine ht_seq ?_
  refine ht_seq ?_
  refine ht_seqR hn (El := [_, _, (4, .v (.int .i64 0))]) (init := [0, 1]) (fin := [0, 1, 2]) (sps := [⟨[], [], [2], [(.slot 4)]⟩]) (es' := [(_, _), (_, _), (4, .v (.int .i64 0))]) (by kernel_rfl) rfl rfl
    ⟨st_plain rfl (op_assign _ _ _ _ rfl rfl),
      trivial⟩ ?_
  refine pt_then ?_
  refine ht_sub (fs := [(2, .fl (.own 3) 1 (List.map (Value.int .i64) [])), (3, .v (.slice none 0 0)), (4, .v (.int .i64 0))]) (.sub _ (sub_nil 3 1) rfl (.same _ (.same _ .nil))) ?_
  refine ht_loopS h (fun ((s58, s59) : (List Int) × Int) => [(2, .fl (.own 3) 1 (List.map (Value.int .i64) s58)), (3, .v (.slice none 0 0)), (4, .v (.int .i64 s59))]) (fun (s85 : (List Int)) => [(2, .fl (.own 3) 1 (List.map (Value.int .i64) s85)), (3, .v (.slice none 0 0))]) ?_ ?_
  · rintro s85 h
    refine pt_then ?_
    refine ht_seq ?_
    refine ht_seq ?_
    refine ht_seqR hn (El := [_, _, (5, .v (.int .i64 0))]) (init := [0, 1]) (fin := [0, 1, 2]) (sps := [⟨[], [], [2], [(.slot 5)]⟩]) (es' := [(_, _), (_, _), (5, .v (.int .i64 0))]) (by kernel_rfl) rfl rfl
      ⟨st_plain rfl (op_assign _ _ _ _ rfl rfl),
        trivial⟩ ?_
    refine pt_then ?_
    refine ht_sub (fs := [(2, .fl (.own 3) 1 (List.map (Value.int .i64) s85)), (3, .fl (.own 3) 1 (List.map (Value.int .i64) [])), (5, .v (.int .i64 0))]) (.same _ (.sub _ (sub_nil 3 1) rfl (.same _ .nil))) ?_
    refine ht_loopS h (fun ((s123, s124) : (List Int) × Int) => [(2, .fl (.own 3) 1 (List.map (Value.int .i64) s85)), (3, .fl (.own 3) 1 (List.map (Value.int .i64) s123)), (5, .v (.int .i64 s124))]) (fun (s126 : (List Int)) => [(2, .fl (.own 3) 1 (List.map (Value.int .i64) s85)), (3, .fl (.own 3) 1 (List.map (Value.int .i64) s126))]) ?_ ?_
    · rintro s126 h
      refine pt_then ?_
      refine ht_seq ?_
      refine ht_seqR hn (El := [_, _, (38, .fl (.own 3) 1 (List.map (Value.int .i64) s85)), (39, .fl (.own 3) 1 (List.map (Value.int .i64) s126)), (0, .fl (.own 3) 1 (List.map (Value.int .i64) s85)), (1, .fl (.own 3) 1 (List.map (Value.int .i64) s126))]) (init := [0, 1]) (fin := [4, 5]) (sps := [⟨[], [0], [2], [(.slot 38)]⟩, ⟨[], [1], [3], [(.slot 39)]⟩, ⟨[], [2], [4], [(.slot 0)]⟩, ⟨[], [3], [5], [(.slot 1)]⟩]) (es' := [(0, .fl (.own 3) 1 (List.map (Value.int .i64) s85)), (1, .fl (.own 3) 1 (List.map (Value.int .i64) s126))]) (by kernel_rfl) rfl rfl
        ⟨st_plain rfl (op_move_take _ _ _ _ rfl),
          st_plain rfl (op_move_take _ _ _ _ rfl),
          st_plain rfl (op_assign_take _ _ _ _ rfl),
          st_plain rfl (op_assign_take _ _ _ _ rfl),
          trivial⟩ ?_
      refine pt_then ?_
      refine ht_ret ?_
      obtain rfl := Option.some.inj h
      exact pt_ret hio rfl (.tmp _ _ (.tmp _ _ .nil)) rfl rfl
    · rintro u127 hl128 hr129 ⟨s123, s124⟩ rr132 h ho130
      refine ht_seq ?_
      refine ht_seq ?_
      refine ht_seqR hn (El := [_, _, _, (31, .v (.int .i64 s124)), (32, .v (.bool ((decide (s124 < 32)))))]) (init := [0, 1, 2]) (fin := [0, 1, 2, 4]) (sps := [⟨[2], [], [3], [(.slot 31)]⟩, ⟨[3], [], [4], [(.slot 32)]⟩]) (es' := [(_, _), (_, _), (_, _), (32, .v (.bool ((decide (s124 < 32)))))]) (by kernel_rfl) rfl rfl
        ⟨st_plain rfl (op_move _ _ _ _ rfl rfl),
          st_plain rfl (op_bin _ _ _ _ _ rfl rfl rfl),
          trivial⟩ ?_
      refine pt_then ?_
      refine ht_cond _ rfl (fun hb133 => ?_) (fun hb133 => ?_)
      · have h := cond_t hb133 h
        refine ht_skip ?_
        refine pt_then ?_
        refine ht_seq ?_
        refine ht_block ?_
        obtain ⟨v118, hv118, h⟩ := bind_some h
        refine ht_seqR hn (El := [_, _, _, _, (35, .fl (.own 3) 1 (List.map (Value.int .i64) s123)), (36, .fl (.own 3) 1 (List.map (Value.int .i64) [5])), (37, .fl (.own 3) 1 (List.map (Value.int .i64) v118)), (35, .any), (3, .fl (.own 3) 1 (List.map (Value.int .i64) v118))]) (init := [0, 1, 2, 3]) (fin := [0, 2, 8]) (sps := [⟨[], [1], [4], [(.slot 35)]⟩, ⟨[], [], [5], [(.slot 36)]⟩, ⟨[5], [4], [7, 6], [(.slot 37)]⟩, ⟨[], [6], [8], [(.slot 3)]⟩]) (es' := [(_, _), (_, _), (3, .fl (.own 3) 1 (List.map (Value.int .i64) v118))]) (by kernel_rfl) rfl rfl
          ⟨st_plain rfl (op_move_take _ _ _ _ rfl),
            st_plain rfl (op_buildSlice _ _ 1 (.int .i64 0) (List.map (Value.int .i64) [5]) [(0, .int .i64 5)] Try.underlying28 sz3 zr3 (fun _ V w o a hv hes => by simp only [List.map_toArray, List.map_cons, List.map_nil]; try rfl) (litfill (by simp [Instr.fill, Value.cells]; rfl) (by simp [List.range, List.range.loop])) (by simp [Value.oneCell']) rfl (by decide) (by decide) (by decide)),
            st_plain rfl (op_app _ _ _ _ _ el28 rfl rfl (map_len _) (map_len _) hv118 ((List.map_append).symm.trans (congrArg (List.map _) (app_eq hv118)))),
            st_plain rfl (op_assign_take _ _ _ _ rfl),
            trivial⟩ ?_
        refine pt_inb ?_
        refine pt_then ?_
        obtain ⟨v119, hv119, h⟩ := bind_some h
        refine ht_seqR hn (El := [_, _, _, (33, .v (.int .i64 s124)), (34, .v (.int .i64 v119)), (5, .v (.int .i64 v119))]) (init := [0, 1, 2]) (fin := [0, 2, 5]) (sps := [⟨[1], [], [3], [(.slot 33)]⟩, ⟨[3], [], [4], [(.slot 34)]⟩, ⟨[4], [1], [5], [(.slot 5)]⟩]) (es' := [(_, _), (_, _), (5, .v (.int .i64 v119))]) (by kernel_rfl) rfl rfl
          ⟨st_plain rfl (op_move _ _ _ _ rfl rfl),
            st_plain rfl (op_bin _ _ _ _ _ rfl rfl (ibind (f := Value.int .i64) (Option.some.inj hv119))),
            st_plain rfl (LOp.drop [_] (op_assign _ _ _ _ rfl rfl)),
            trivial⟩ ?_
        exact pt_next _ (Option.some.inj h).symm rfl
      · have h := cond_f hb133 h
        refine ht_exit ?_
        refine pt_x_then ?_
        refine pt_x_then ?_
        refine pt_x_in ?_
        refine pt_pick [0, 1] (by kernel_rfl) (es' := [(_, _), (_, _)]) rfl ?_
        exact hl128 _ (ho130 _ (Option.some.inj h).symm).symm
  · rintro u86 hl87 hr88 ⟨s58, s59⟩ rr91 h ho89
    refine ht_seq ?_
    refine ht_seq ?_
    refine ht_seqR hn (El := [_, _, _, (6, .v (.int .i64 s59)), (7, .v (.bool ((decide (s59 < 288)))))]) (init := [0, 1, 2]) (fin := [0, 1, 2, 4]) (sps := [⟨[2], [], [3], [(.slot 6)]⟩, ⟨[3], [], [4], [(.slot 7)]⟩]) (es' := [(_, _), (_, _), (_, _), (7, .v (.bool ((decide (s59 < 288)))))]) (by kernel_rfl) rfl rfl
      ⟨st_plain rfl (op_move _ _ _ _ rfl rfl),
        st_plain rfl (op_bin _ _ _ _ _ rfl rfl rfl),
        trivial⟩ ?_
    refine pt_then ?_
    refine ht_cond _ rfl (fun hb92 => ?_) (fun hb92 => ?_)
    · have h := cond_t hb92 h
      refine ht_skip ?_
      refine pt_then ?_
      refine ht_seq ?_
      refine ht_joinS h (fun (s103 : (List Int)) => [(3, .v (.slice none 0 0)), (4, .v (.int .i64 s59)), (2, .fl (.own 3) 1 (List.map (Value.int .i64) s103))]) ?_ ?_
      · rintro s103 h
        refine pt_then ?_
        obtain ⟨v30, hv30, h⟩ := bind_some h
        refine ht_seqR hn (El := [_, _, _, (8, .v (.int .i64 s59)), (9, .v (.int .i64 v30)), (4, .v (.int .i64 v30))]) (init := [0, 1, 2]) (fin := [0, 2, 5]) (sps := [⟨[1], [], [3], [(.slot 8)]⟩, ⟨[3], [], [4], [(.slot 9)]⟩, ⟨[4], [1], [5], [(.slot 4)]⟩]) (es' := [(_, _), (_, _), (4, .v (.int .i64 v30))]) (by kernel_rfl) rfl rfl
          ⟨st_plain rfl (op_move _ _ _ _ rfl rfl),
            st_plain rfl (op_bin _ _ _ _ _ rfl rfl (ibind (f := Value.int .i64) (Option.some.inj hv30))),
            st_plain rfl (LOp.drop [_] (op_assign _ _ _ _ rfl rfl)),
            trivial⟩ ?_
        refine pt_pick [1, 0, 2] (by kernel_rfl) (es' := [(_, _), (_, _), (_, _)]) rfl ?_
        exact pt_next _ (Option.some.inj h).symm rfl
      · intro u104 h hl105 hr106
        refine ht_block ?_
        refine ht_joinS h (fun (s110 : (List Int)) => [(3, .v (.slice none 0 0)), (4, .v (.int .i64 s59)), (2, .fl (.own 3) 1 (List.map (Value.int .i64) s110))]) ?_ ?_
        · rintro s110 h
          refine pt_inb ?_
          exact hl105 _ (Option.some.inj h).symm
        · intro u111 h hl112 hr113
          refine ht_block ?_
          refine ht_seq ?_
          refine ht_seqR hn (El := [_, _, _, _, (14, .v (.int .i64 s59)), (15, .v (.bool ((decide (s59 ≤ 143))))), (13, .v (.bool ((decide (s59 ≤ 143)))))]) (init := [0, 1, 2, 3]) (fin := [0, 1, 2, 6]) (sps := [⟨[2], [], [4], [(.slot 14)]⟩, ⟨[4], [], [5], [(.slot 15)]⟩, ⟨[5], [], [6], [(.slot 13)]⟩]) (es' := [(_, _), (_, _), (_, _), (13, .v (.bool ((decide (s59 ≤ 143)))))]) (by kernel_rfl) rfl rfl
            ⟨st_plain rfl (op_move _ _ _ _ rfl rfl),
              st_plain rfl (op_bin _ _ _ _ _ rfl rfl rfl),
              st_plain rfl (op_assign _ _ _ _ rfl rfl),
              trivial⟩ ?_
          refine pt_then ?_
          refine ht_cond _ rfl (fun hb114 => ?_) (fun hb114 => ?_)
          · have h := cond_t hb114 h
            obtain ⟨v3, hv3, h⟩ := bind_some h
            refine ht_seqR hn (El := [_, _, _, _, (16, .fl (.own 3) 1 (List.map (Value.int .i64) s58)), (17, .fl (.own 3) 1 (List.map (Value.int .i64) [8])), (18, .fl (.own 3) 1 (List.map (Value.int .i64) v3)), (16, .any), (2, .fl (.own 3) 1 (List.map (Value.int .i64) v3))]) (init := [0, 1, 2, 3]) (fin := [1, 2, 8]) (sps := [⟨[], [0], [4], [(.slot 16)]⟩, ⟨[], [], [5], [(.slot 17)]⟩, ⟨[5], [4], [7, 6], [(.slot 18)]⟩, ⟨[], [6], [8], [(.slot 2)]⟩]) (es' := [(_, _), (_, _), (2, .fl (.own 3) 1 (List.map (Value.int .i64) v3))]) (by kernel_rfl) rfl rfl
              ⟨st_plain rfl (op_move_take _ _ _ _ rfl),
                st_plain rfl (op_buildSlice _ _ 1 (.int .i64 0) (List.map (Value.int .i64) [8]) [(0, .int .i64 8)] Try.underlying28 sz3 zr3 (fun _ V w o a hv hes => by simp only [List.map_toArray, List.map_cons, List.map_nil]; try rfl) (litfill (by simp [Instr.fill, Value.cells]; rfl) (by simp [List.range, List.range.loop])) (by simp [Value.oneCell']) rfl (by decide) (by decide) (by decide)),
                st_plain rfl (op_app _ _ _ _ _ el28 rfl rfl (map_len _) (map_len _) hv3 ((List.map_append).symm.trans (congrArg (List.map _) (app_eq hv3)))),
                st_plain rfl (op_assign_take _ _ _ _ rfl),
                trivial⟩ ?_
            refine pt_inb ?_
            exact hl112 _ (Option.some.inj h).symm
          · have h := cond_f hb114 h
            refine ht_seq ?_
            refine ht_seqR hn (El := [_, _, _, _, (20, .v (.int .i64 s59)), (21, .v (.bool ((decide (s59 ≤ 255))))), (19, .v (.bool ((decide (s59 ≤ 255)))))]) (init := [0, 1, 2, 3]) (fin := [0, 1, 2, 6]) (sps := [⟨[2], [], [4], [(.slot 20)]⟩, ⟨[4], [], [5], [(.slot 21)]⟩, ⟨[5], [], [6], [(.slot 19)]⟩]) (es' := [(_, _), (_, _), (_, _), (19, .v (.bool ((decide (s59 ≤ 255)))))]) (by kernel_rfl) rfl rfl
              ⟨st_plain rfl (op_move _ _ _ _ rfl rfl),
                st_plain rfl (op_bin _ _ _ _ _ rfl rfl rfl),
                st_plain rfl (op_assign _ _ _ _ rfl rfl),
                trivial⟩ ?_
            refine pt_then ?_
            refine ht_cond _ rfl (fun hb115 => ?_) (fun hb115 => ?_)
            · have h := cond_t hb115 h
              obtain ⟨v5, hv5, h⟩ := bind_some h
              refine ht_seqR hn (El := [_, _, _, _, (22, .fl (.own 3) 1 (List.map (Value.int .i64) s58)), (23, .fl (.own 3) 1 (List.map (Value.int .i64) [9])), (24, .fl (.own 3) 1 (List.map (Value.int .i64) v5)), (22, .any), (2, .fl (.own 3) 1 (List.map (Value.int .i64) v5))]) (init := [0, 1, 2, 3]) (fin := [1, 2, 8]) (sps := [⟨[], [0], [4], [(.slot 22)]⟩, ⟨[], [], [5], [(.slot 23)]⟩, ⟨[5], [4], [7, 6], [(.slot 24)]⟩, ⟨[], [6], [8], [(.slot 2)]⟩]) (es' := [(_, _), (_, _), (2, .fl (.own 3) 1 (List.map (Value.int .i64) v5))]) (by kernel_rfl) rfl rfl
                ⟨st_plain rfl (op_move_take _ _ _ _ rfl),
                  st_plain rfl (op_buildSlice _ _ 1 (.int .i64 0) (List.map (Value.int .i64) [9]) [(0, .int .i64 9)] Try.underlying28 sz3 zr3 (fun _ V w o a hv hes => by simp only [List.map_toArray, List.map_cons, List.map_nil]; try rfl) (litfill (by simp [Instr.fill, Value.cells]; rfl) (by simp [List.range, List.range.loop])) (by simp [Value.oneCell']) rfl (by decide) (by decide) (by decide)),
                  st_plain rfl (op_app _ _ _ _ _ el28 rfl rfl (map_len _) (map_len _) hv5 ((List.map_append).symm.trans (congrArg (List.map _) (app_eq hv5)))),
                  st_plain rfl (op_assign_take _ _ _ _ rfl),
                  trivial⟩ ?_
              refine pt_inb ?_
              exact hl112 _ (Option.some.inj h).symm
            · have h := cond_f hb115 h
              refine ht_seq ?_
              refine ht_seqR hn (El := [_, _, _, _, (26, .v (.int .i64 s59)), (27, .v (.bool ((decide (s59 ≤ 279))))), (25, .v (.bool ((decide (s59 ≤ 279)))))]) (init := [0, 1, 2, 3]) (fin := [0, 1, 2, 6]) (sps := [⟨[2], [], [4], [(.slot 26)]⟩, ⟨[4], [], [5], [(.slot 27)]⟩, ⟨[5], [], [6], [(.slot 25)]⟩]) (es' := [(_, _), (_, _), (_, _), (25, .v (.bool ((decide (s59 ≤ 279)))))]) (by kernel_rfl) rfl rfl
                ⟨st_plain rfl (op_move _ _ _ _ rfl rfl),
                  st_plain rfl (op_bin _ _ _ _ _ rfl rfl rfl),
                  st_plain rfl (op_assign _ _ _ _ rfl rfl),
                  trivial⟩ ?_
              refine pt_then ?_
              refine ht_cond _ rfl (fun hb116 => ?_) (fun hb116 => ?_)
              · have h := cond_t hb116 h
                obtain ⟨v7, hv7, h⟩ := bind_some h
                refine ht_seqR hn (El := [_, _, _, _, (28, .fl (.own 3) 1 (List.map (Value.int .i64) s58)), (29, .fl (.own 3) 1 (List.map (Value.int .i64) [7])), (30, .fl (.own 3) 1 (List.map (Value.int .i64) v7)), (28, .any), (2, .fl (.own 3) 1 (List.map (Value.int .i64) v7))]) (init := [0, 1, 2, 3]) (fin := [1, 2, 8]) (sps := [⟨[], [0], [4], [(.slot 28)]⟩, ⟨[], [], [5], [(.slot 29)]⟩, ⟨[5], [4], [7, 6], [(.slot 30)]⟩, ⟨[], [6], [8], [(.slot 2)]⟩]) (es' := [(_, _), (_, _), (2, .fl (.own 3) 1 (List.map (Value.int .i64) v7))]) (by kernel_rfl) rfl rfl
                  ⟨st_plain rfl (op_move_take _ _ _ _ rfl),
                    st_plain rfl (op_buildSlice _ _ 1 (.int .i64 0) (List.map (Value.int .i64) [7]) [(0, .int .i64 7)] Try.underlying28 sz3 zr3 (fun _ V w o a hv hes => by simp only [List.map_toArray, List.map_cons, List.map_nil]; try rfl) (litfill (by simp [Instr.fill, Value.cells]; rfl) (by simp [List.range, List.range.loop])) (by simp [Value.oneCell']) rfl (by decide) (by decide) (by decide)),
                    st_plain rfl (op_app _ _ _ _ _ el28 rfl rfl (map_len _) (map_len _) hv7 ((List.map_append).symm.trans (congrArg (List.map _) (app_eq hv7)))),
                    st_plain rfl (op_assign_take _ _ _ _ rfl),
                    trivial⟩ ?_
                refine pt_inb ?_
                exact hl112 _ (Option.some.inj h).symm
              · have h := cond_f hb116 h
                obtain ⟨v8, hv8, h⟩ := bind_some h
                refine ht_seqR hn (El := [_, _, _, _, (10, .fl (.own 3) 1 (List.map (Value.int .i64) s58)), (11, .fl (.own 3) 1 (List.map (Value.int .i64) [8])), (12, .fl (.own 3) 1 (List.map (Value.int .i64) v8)), (10, .any), (2, .fl (.own 3) 1 (List.map (Value.int .i64) v8))]) (init := [0, 1, 2, 3]) (fin := [1, 2, 8]) (sps := [⟨[], [0], [4], [(.slot 10)]⟩, ⟨[], [], [5], [(.slot 11)]⟩, ⟨[5], [4], [7, 6], [(.slot 12)]⟩, ⟨[], [6], [8], [(.slot 2)]⟩]) (es' := [(_, _), (_, _), (2, .fl (.own 3) 1 (List.map (Value.int .i64) v8))]) (by kernel_rfl) rfl rfl
                  ⟨st_plain rfl (op_move_take _ _ _ _ rfl),
                    st_plain rfl (op_buildSlice _ _ 1 (.int .i64 0) (List.map (Value.int .i64) [8]) [(0, .int .i64 8)] Try.underlying28 sz3 zr3 (fun _ V w o a hv hes => by simp only [List.map_toArray, List.map_cons, List.map_nil]; try rfl) (litfill (by simp [Instr.fill, Value.cells]; rfl) (by simp [List.range, List.range.loop])) (by simp [Value.oneCell']) rfl (by decide) (by decide) (by decide)),
                    st_plain rfl (op_app _ _ _ _ _ el28 rfl rfl (map_len _) (map_len _) hv8 ((List.map_append).symm.trans (congrArg (List.map _) (app_eq hv8)))),
                    st_plain rfl (op_assign_take _ _ _ _ rfl),
                    trivial⟩ ?_
                refine pt_inb ?_
                exact hl112 _ (Option.some.inj h).symm
    · have h := cond_f hb92 h
      refine ht_exit ?_
      refine pt_x_then ?_
      refine pt_x_then ?_
      refine pt_x_in ?_
      refine pt_pick [0, 1] (by kernel_rfl) (es' := [(_, _), (_, _)]) rfl ?_
      exact hl87 _ (ho89 _ (Option.some.inj h).symm).symm

set_option maxHeartbeats 1000000 in
theorem ok_wherrykeep_TwinToks (l : (List T_Tok)) (r : (List T_Tok)) (h : Sh.wherrykeep_TwinToks l = some r) : FnOK Try.prog 19 [.fl .shr 3 (List.flatten (List.map T_Tok.enc l))] (.fl (.own 48) 3 (List.flatten (List.map T_Tok.enc r))) := by
  unfold Sh.wherrykeep_TwinToks at h
  refine fn_ok Try.func19 rfl (Nat.le_of_ble_eq_true rfl) rfl rfl fun g0 hn hio => ?_
  refine ht_seq ?_
  refine ht_seqR hn (El := [_, (2, .v (.slice none 0 0))]) (init := [0]) (fin := [0]) (sps := [⟨[], [], [1], [(.slot 2)]⟩]) (es' := [(_, _)]) (by kernel_rfl) rfl rfl
    ⟨st_plain rfl (op_assign _ _ _ _ rfl rfl),
      trivial⟩ ?_
  refine pt_then ?_
  refine ht_seq ?_
  refine ht_seqR hn (El := [_, (3, .v (.slice none 0 0))]) (init := [0]) (fin := [0, 1]) (sps := [⟨[], [], [1], [(.slot 3)]⟩]) (es' := [(_, _), (3, .v (.slice none 0 0))]) (by kernel_rfl) rfl rfl
    ⟨st_plain rfl (op_assign _ _ _ _ rfl rfl),
      trivial⟩ ?_
  refine pt_then ?_
  refine ht_seq ?_
  obtain ⟨v1, hv1, h⟩ := bind_some h
  refine ht_seqR hn (El := [_, _, (4, .v (.slice none 0 0)), (5, .fl .shr 3 (List.flatten (List.map T_Tok.enc l))), (6, .fl (.own 48) 3 (List.flatten (List.map T_Tok.enc v1))), (2, .fl (.own 48) 3 (List.flatten (List.map T_Tok.enc v1)))]) (init := [0, 1]) (fin := [5]) (sps := [⟨[1], [], [2], [(.slot 4)]⟩, ⟨[0], [], [3], [(.slot 5)]⟩, ⟨[2, 3], [], [4], [(.slot 6)]⟩, ⟨[], [4], [5], [(.slot 2)]⟩]) (es' := [(2, .fl (.own 48) 3 (List.flatten (List.map T_Tok.enc v1)))]) (by kernel_rfl) rfl rfl
    ⟨st_plain rfl (op_move _ _ _ _ rfl rfl),
      st_plain rfl (op_move _ _ _ _ rfl rfl),
      st_plain rfl (op_app_nil _ _ _ _ el22 rfl rfl (flat_len T_Tok.len _) hv1 (congrArg (fun l => List.flatten (List.map _ l)) (app_nil_eq hv1))),
      st_plain rfl (op_assign_take _ _ _ _ rfl),
      trivial⟩ ?_
  refine pt_then ?_
  refine ht_ret ?_
  obtain rfl := Option.some.inj h
  exact pt_ret hio rfl (.tmp _ _ .nil) rfl rfl

set_option maxHeartbeats 1000000 in
theorem ok_match_validMatch (t : T_Tok) (r : Bool) (h : Sh.match_validMatch t = some r) : FnOK Try.prog 43 [.agg [.v (.int .u8 t.Byte), .v (.int .i64 t.Len), .v (.int .i64 t.Dist)]] (.v (.bool r)) := by
  unfold Sh.match_validMatch at h
  refine fn_ok Try.func43 rfl (Nat.le_of_ble_eq_true rfl) rfl rfl fun g0 hn hio => ?_
  refine ht_seq ?_
  refine ht_seqR hn (El := [_, (1, .box 48 [.v (.int .u8 t.Byte), .v (.int .i64 t.Len), .v (.int .i64 t.Dist)]), (2, .v (.bool false))]) (init := [0]) (fin := [1]) (sps := [⟨[0], [], [1], [(.slot 1)]⟩, ⟨[], [], [2], [(.slot 2)]⟩]) (es' := [(1, .box 48 [.v (.int .u8 t.Byte), .v (.int .i64 t.Len), .v (.int .i64 t.Dist)])]) (by kernel_rfl) rfl rfl
    ⟨st_plain rfl (op_box _ _ _ _ rfl rfl rfl),
      st_plain rfl (op_assign _ _ _ _ rfl rfl),
      trivial⟩ ?_
  refine pt_then ?_
  refine ht_seq ?_
  refine ht_joinS h (fun (s1 : Bool) => [(2, .v (.bool s1))]) ?_ ?_
  · rintro s1 h
    refine pt_then ?_
    refine ht_ret ?_
    obtain rfl := Option.some.inj h
    exact pt_ret hio rfl (.tmp _ _ .nil) rfl rfl
  · intro u2 h hl3 hr4
    refine cond_some h (fun hg1_3 h => ?_) (fun hg1_3 h => ?_)
    · refine cond_some h (fun hg1_8 h => ?_) (fun hg1_8 h => ?_)
      · refine cond_some h (fun hg1_13 h => ?_) (fun hg1_13 h => ?_)
        · refine cond_some h (fun hg1_18 h => ?_) (fun hg1_18 h => ?_)
          · refine ht_seqR hn (El := (_ :: (3, .ptr 1 0) :: (4, .v (.int .u8 t.Byte)) :: (5, .v (.bool (t.Byte == 0))) :: (6, .v (.bool true)) :: (7, .ptr 1 1) :: (8, .v (.int .i64 t.Len)) :: (9, .v (.bool ((decide (3 ≤ t.Len))))) :: (10, .v (.bool ((decide (3 ≤ t.Len))))) :: (11, .v (.bool true)) :: (12, .ptr 1 1) :: (13, .v (.int .i64 t.Len)) :: (14, .v (.bool ((decide (t.Len ≤ 258))))) :: (15, .v (.bool ((decide (t.Len ≤ 258))))) :: (16, .v (.bool true)) :: (17, .ptr 1 2) :: (18, .v (.int .i64 t.Dist)) :: (19, .v (.bool ((decide (1 ≤ t.Dist))))) :: (20, .v (.bool ((decide (1 ≤ t.Dist))))) :: (21, .v (.bool true)) :: (22, .ptr 1 2) :: (23, .v (.int .i64 t.Dist)) :: (24, .v (.bool ((decide (t.Dist ≤ 2048))))) :: (25, .v (.bool ((decide (t.Dist ≤ 2048))))) :: (2, .v (.bool ((decide (t.Dist ≤ 2048))))) :: [])) (init := [0]) (fin := [24]) (sps := (⟨[0], [], [1], [(.slot 3)]⟩ :: ⟨[1, 0], [], [2], [(.slot 4)]⟩ :: ⟨[2], [], [3], [(.slot 5)]⟩ :: ⟨[3], [], [4], [(.slot 6)]⟩ :: ⟨[4, 0], [], [5], [(.slot 7)]⟩ :: ⟨[4, 5, 0], [], [6], [(.slot 8)]⟩ :: ⟨[4, 6], [], [7], [(.slot 9)]⟩ :: ⟨[4, 7], [], [8], [(.slot 10)]⟩ :: ⟨[8], [], [9], [(.slot 11)]⟩ :: ⟨[9, 0], [], [10], [(.slot 12)]⟩ :: ⟨[9, 10, 0], [], [11], [(.slot 13)]⟩ :: ⟨[9, 11], [], [12], [(.slot 14)]⟩ :: ⟨[9, 12], [], [13], [(.slot 15)]⟩ :: ⟨[13], [], [14], [(.slot 16)]⟩ :: ⟨[14, 0], [], [15], [(.slot 17)]⟩ :: ⟨[14, 15, 0], [], [16], [(.slot 18)]⟩ :: ⟨[14, 16], [], [17], [(.slot 19)]⟩ :: ⟨[14, 17], [], [18], [(.slot 20)]⟩ :: ⟨[18], [], [19], [(.slot 21)]⟩ :: ⟨[19, 0], [], [20], [(.slot 22)]⟩ :: ⟨[19, 20, 0], [], [21], [(.slot 23)]⟩ :: ⟨[19, 21], [], [22], [(.slot 24)]⟩ :: ⟨[19, 22], [], [23], [(.slot 25)]⟩ :: ⟨[23], [], [24], [(.slot 2)]⟩ :: [])) (es' := [(2, .v (.bool ((decide (t.Dist ≤ 2048)))))]) (by kernel_rfl) rfl rfl
              ⟨st_plain rfl (op_fieldAddr _ _ _ _ 1 0 _ Try.underlying48 rfl sz5 rfl rfl (by decide)),
                st_plain rfl (op_load _ _ _ _ _ _ Try.underlying5 rfl rfl rfl (Nat.le_of_ble_eq_true rfl) rfl rfl rfl),
                st_plain rfl (op_bin _ _ _ _ _ rfl rfl rfl),
                st_plain rfl (op_move _ _ _ _ (congrArg (fun b => AV.v (Value.bool b)) hg1_3) rfl),
                st_run 3 6 true rfl rfl rfl (List.Mem.head _) (op_fieldAddr _ _ _ _ 1 0 _ Try.underlying48 rfl sz3 rfl rfl (by decide)),
                st_run 3 6 true rfl rfl rfl (List.Mem.head _) (op_load _ _ _ _ _ _ Try.underlying3 rfl rfl rfl (Nat.le_of_ble_eq_true rfl) rfl rfl rfl),
                st_run 3 6 true rfl rfl rfl (List.Mem.head _) (op_bin _ _ _ _ _ rfl rfl rfl),
                st_plain rfl (op_pick _ _ true _ rfl rfl),
                st_plain rfl (op_move _ _ _ _ (congrArg (fun b => AV.v (Value.bool b)) hg1_8) rfl),
                st_run 8 11 true rfl rfl rfl (List.Mem.head _) (op_fieldAddr _ _ _ _ 1 0 _ Try.underlying48 rfl sz3 rfl rfl (by decide)),
                st_run 8 11 true rfl rfl rfl (List.Mem.head _) (op_load _ _ _ _ _ _ Try.underlying3 rfl rfl rfl (Nat.le_of_ble_eq_true rfl) rfl rfl rfl),
                st_run 8 11 true rfl rfl rfl (List.Mem.head _) (op_bin _ _ _ _ _ rfl rfl rfl),
                st_plain rfl (op_pick _ _ true _ rfl rfl),
                st_plain rfl (op_move _ _ _ _ (congrArg (fun b => AV.v (Value.bool b)) hg1_13) rfl),
                st_run 13 16 true rfl rfl rfl (List.Mem.head _) (op_fieldAddr _ _ _ _ 1 0 _ Try.underlying48 rfl sz3 rfl rfl (by decide)),
                st_run 13 16 true rfl rfl rfl (List.Mem.head _) (op_load _ _ _ _ _ _ Try.underlying3 rfl rfl rfl (Nat.le_of_ble_eq_true rfl) rfl rfl rfl),
                st_run 13 16 true rfl rfl rfl (List.Mem.head _) (op_bin _ _ _ _ _ rfl rfl rfl),
                st_plain rfl (op_pick _ _ true _ rfl rfl),
                st_plain rfl (op_move _ _ _ _ (congrArg (fun b => AV.v (Value.bool b)) hg1_18) rfl),
                st_run 18 21 true rfl rfl rfl (List.Mem.head _) (op_fieldAddr _ _ _ _ 1 0 _ Try.underlying48 rfl sz3 rfl rfl (by decide)),
                st_run 18 21 true rfl rfl rfl (List.Mem.head _) (op_load _ _ _ _ _ _ Try.underlying3 rfl rfl rfl (Nat.le_of_ble_eq_true rfl) rfl rfl rfl),
                st_run 18 21 true rfl rfl rfl (List.Mem.head _) (op_bin _ _ _ _ _ rfl rfl rfl),
                st_plain rfl (op_pick _ _ true _ rfl rfl),
                st_plain rfl (op_assign _ _ _ _ rfl rfl),
                trivial⟩ ?_
            exact hl3 _ (Option.some.inj h).symm
          · refine ht_seqR hn (El := (_ :: (3, .ptr 1 0) :: (4, .v (.int .u8 t.Byte)) :: (5, .v (.bool (t.Byte == 0))) :: (6, .v (.bool true)) :: (7, .ptr 1 1) :: (8, .v (.int .i64 t.Len)) :: (9, .v (.bool ((decide (3 ≤ t.Len))))) :: (10, .v (.bool ((decide (3 ≤ t.Len))))) :: (11, .v (.bool true)) :: (12, .ptr 1 1) :: (13, .v (.int .i64 t.Len)) :: (14, .v (.bool ((decide (t.Len ≤ 258))))) :: (15, .v (.bool ((decide (t.Len ≤ 258))))) :: (16, .v (.bool true)) :: (17, .ptr 1 2) :: (18, .v (.int .i64 t.Dist)) :: (19, .v (.bool ((decide (1 ≤ t.Dist))))) :: (20, .v (.bool ((decide (1 ≤ t.Dist))))) :: (21, .v (.bool false)) :: (22, .v undef) :: (23, .v undef) :: (24, .v undef) :: (25, .v (.bool false)) :: (2, .v (.bool false)) :: [])) (init := [0]) (fin := [24]) (sps := (⟨[0], [], [1], [(.slot 3)]⟩ :: ⟨[1, 0], [], [2], [(.slot 4)]⟩ :: ⟨[2], [], [3], [(.slot 5)]⟩ :: ⟨[3], [], [4], [(.slot 6)]⟩ :: ⟨[4, 0], [], [5], [(.slot 7)]⟩ :: ⟨[4, 5, 0], [], [6], [(.slot 8)]⟩ :: ⟨[4, 6], [], [7], [(.slot 9)]⟩ :: ⟨[4, 7], [], [8], [(.slot 10)]⟩ :: ⟨[8], [], [9], [(.slot 11)]⟩ :: ⟨[9, 0], [], [10], [(.slot 12)]⟩ :: ⟨[9, 10, 0], [], [11], [(.slot 13)]⟩ :: ⟨[9, 11], [], [12], [(.slot 14)]⟩ :: ⟨[9, 12], [], [13], [(.slot 15)]⟩ :: ⟨[13], [], [14], [(.slot 16)]⟩ :: ⟨[14, 0], [], [15], [(.slot 17)]⟩ :: ⟨[14, 15, 0], [], [16], [(.slot 18)]⟩ :: ⟨[14, 16], [], [17], [(.slot 19)]⟩ :: ⟨[14, 17], [], [18], [(.slot 20)]⟩ :: ⟨[18], [], [19], [(.slot 21)]⟩ :: ⟨[19], [], [20], [(.slot 22)]⟩ :: ⟨[19], [], [21], [(.slot 23)]⟩ :: ⟨[19], [], [22], [(.slot 24)]⟩ :: ⟨[19], [], [23], [(.slot 25)]⟩ :: ⟨[23], [], [24], [(.slot 2)]⟩ :: [])) (es' := [(2, .v (.bool false))]) (by kernel_rfl) rfl rfl
              ⟨st_plain rfl (op_fieldAddr _ _ _ _ 1 0 _ Try.underlying48 rfl sz5 rfl rfl (by decide)),
                st_plain rfl (op_load _ _ _ _ _ _ Try.underlying5 rfl rfl rfl (Nat.le_of_ble_eq_true rfl) rfl rfl rfl),
                st_plain rfl (op_bin _ _ _ _ _ rfl rfl rfl),
                st_plain rfl (op_move _ _ _ _ (congrArg (fun b => AV.v (Value.bool b)) hg1_3) rfl),
                st_run 3 6 true rfl rfl rfl (List.Mem.head _) (op_fieldAddr _ _ _ _ 1 0 _ Try.underlying48 rfl sz3 rfl rfl (by decide)),
                st_run 3 6 true rfl rfl rfl (List.Mem.head _) (op_load _ _ _ _ _ _ Try.underlying3 rfl rfl rfl (Nat.le_of_ble_eq_true rfl) rfl rfl rfl),
                st_run 3 6 true rfl rfl rfl (List.Mem.head _) (op_bin _ _ _ _ _ rfl rfl rfl),
                st_plain rfl (op_pick _ _ true _ rfl rfl),
                st_plain rfl (op_move _ _ _ _ (congrArg (fun b => AV.v (Value.bool b)) hg1_8) rfl),
                st_run 8 11 true rfl rfl rfl (List.Mem.head _) (op_fieldAddr _ _ _ _ 1 0 _ Try.underlying48 rfl sz3 rfl rfl (by decide)),
                st_run 8 11 true rfl rfl rfl (List.Mem.head _) (op_load _ _ _ _ _ _ Try.underlying3 rfl rfl rfl (Nat.le_of_ble_eq_true rfl) rfl rfl rfl),
                st_run 8 11 true rfl rfl rfl (List.Mem.head _) (op_bin _ _ _ _ _ rfl rfl rfl),
                st_plain rfl (op_pick _ _ true _ rfl rfl),
                st_plain rfl (op_move _ _ _ _ (congrArg (fun b => AV.v (Value.bool b)) hg1_13) rfl),
                st_run 13 16 true rfl rfl rfl (List.Mem.head _) (op_fieldAddr _ _ _ _ 1 0 _ Try.underlying48 rfl sz3 rfl rfl (by decide)),
                st_run 13 16 true rfl rfl rfl (List.Mem.head _) (op_load _ _ _ _ _ _ Try.underlying3 rfl rfl rfl (Nat.le_of_ble_eq_true rfl) rfl rfl rfl),
                st_run 13 16 true rfl rfl rfl (List.Mem.head _) (op_bin _ _ _ _ _ rfl rfl rfl),
                st_plain rfl (op_pick _ _ true _ rfl rfl),
                st_plain rfl (op_move _ _ _ _ (congrArg (fun b => AV.v (Value.bool b)) hg1_18) rfl),
                st_skip 18 21 _ true rfl rfl rfl rfl (List.Mem.head _),
                st_skip 18 21 _ true rfl rfl rfl rfl (List.Mem.head _),
                st_skip 18 21 _ true rfl rfl rfl rfl (List.Mem.head _),
                st_plain rfl (op_pick _ _ false _ rfl rfl),
                st_plain rfl (op_assign _ _ _ _ rfl rfl),
                trivial⟩ ?_
            exact hl3 _ (Option.some.inj h).symm
        · refine ht_seqR hn (El := (_ :: (3, .ptr 1 0) :: (4, .v (.int .u8 t.Byte)) :: (5, .v (.bool (t.Byte == 0))) :: (6, .v (.bool true)) :: (7, .ptr 1 1) :: (8, .v (.int .i64 t.Len)) :: (9, .v (.bool ((decide (3 ≤ t.Len))))) :: (10, .v (.bool ((decide (3 ≤ t.Len))))) :: (11, .v (.bool true)) :: (12, .ptr 1 1) :: (13, .v (.int .i64 t.Len)) :: (14, .v (.bool ((decide (t.Len ≤ 258))))) :: (15, .v (.bool ((decide (t.Len ≤ 258))))) :: (16, .v (.bool false)) :: (17, .v undef) :: (18, .v undef) :: (19, .v undef) :: (20, .v (.bool false)) :: (21, .v (.bool false)) :: (22, .v undef) :: (23, .v undef) :: (24, .v undef) :: (25, .v (.bool false)) :: (2, .v (.bool false)) :: [])) (init := [0]) (fin := [24]) (sps := (⟨[0], [], [1], [(.slot 3)]⟩ :: ⟨[1, 0], [], [2], [(.slot 4)]⟩ :: ⟨[2], [], [3], [(.slot 5)]⟩ :: ⟨[3], [], [4], [(.slot 6)]⟩ :: ⟨[4, 0], [], [5], [(.slot 7)]⟩ :: ⟨[4, 5, 0], [], [6], [(.slot 8)]⟩ :: ⟨[4, 6], [], [7], [(.slot 9)]⟩ :: ⟨[4, 7], [], [8], [(.slot 10)]⟩ :: ⟨[8], [], [9], [(.slot 11)]⟩ :: ⟨[9, 0], [], [10], [(.slot 12)]⟩ :: ⟨[9, 10, 0], [], [11], [(.slot 13)]⟩ :: ⟨[9, 11], [], [12], [(.slot 14)]⟩ :: ⟨[9, 12], [], [13], [(.slot 15)]⟩ :: ⟨[13], [], [14], [(.slot 16)]⟩ :: ⟨[14], [], [15], [(.slot 17)]⟩ :: ⟨[14], [], [16], [(.slot 18)]⟩ :: ⟨[14], [], [17], [(.slot 19)]⟩ :: ⟨[14], [], [18], [(.slot 20)]⟩ :: ⟨[18], [], [19], [(.slot 21)]⟩ :: ⟨[19], [], [20], [(.slot 22)]⟩ :: ⟨[19], [], [21], [(.slot 23)]⟩ :: ⟨[19], [], [22], [(.slot 24)]⟩ :: ⟨[19], [], [23], [(.slot 25)]⟩ :: ⟨[23], [], [24], [(.slot 2)]⟩ :: [])) (es' := [(2, .v (.bool false))]) (by kernel_rfl) rfl rfl
            ⟨st_plain rfl (op_fieldAddr _ _ _ _ 1 0 _ Try.underlying48 rfl sz5 rfl rfl (by decide)),
              st_plain rfl (op_load _ _ _ _ _ _ Try.underlying5 rfl rfl rfl (Nat.le_of_ble_eq_true rfl) rfl rfl rfl),
              st_plain rfl (op_bin _ _ _ _ _ rfl rfl rfl),
              st_plain rfl (op_move _ _ _ _ (congrArg (fun b => AV.v (Value.bool b)) hg1_3) rfl),
              st_run 3 6 true rfl rfl rfl (List.Mem.head _) (op_fieldAddr _ _ _ _ 1 0 _ Try.underlying48 rfl sz3 rfl rfl (by decide)),
              st_run 3 6 true rfl rfl rfl (List.Mem.head _) (op_load _ _ _ _ _ _ Try.underlying3 rfl rfl rfl (Nat.le_of_ble_eq_true rfl) rfl rfl rfl),
              st_run 3 6 true rfl rfl rfl (List.Mem.head _) (op_bin _ _ _ _ _ rfl rfl rfl),
              st_plain rfl (op_pick _ _ true _ rfl rfl),
              st_plain rfl (op_move _ _ _ _ (congrArg (fun b => AV.v (Value.bool b)) hg1_8) rfl),
              st_run 8 11 true rfl rfl rfl (List.Mem.head _) (op_fieldAddr _ _ _ _ 1 0 _ Try.underlying48 rfl sz3 rfl rfl (by decide)),
              st_run 8 11 true rfl rfl rfl (List.Mem.head _) (op_load _ _ _ _ _ _ Try.underlying3 rfl rfl rfl (Nat.le_of_ble_eq_true rfl) rfl rfl rfl),
              st_run 8 11 true rfl rfl rfl (List.Mem.head _) (op_bin _ _ _ _ _ rfl rfl rfl),
              st_plain rfl (op_pick _ _ true _ rfl rfl),
              st_plain rfl (op_move _ _ _ _ (congrArg (fun b => AV.v (Value.bool b)) hg1_13) rfl),
              st_skip 13 16 _ true rfl rfl rfl rfl (List.Mem.head _),
              st_skip 13 16 _ true rfl rfl rfl rfl (List.Mem.head _),
              st_skip 13 16 _ true rfl rfl rfl rfl (List.Mem.head _),
              st_plain rfl (op_pick _ _ false _ rfl rfl),
              st_plain rfl (op_move _ _ _ _ rfl rfl),
              st_skip 18 21 _ true rfl rfl rfl rfl (List.Mem.head _),
              st_skip 18 21 _ true rfl rfl rfl rfl (List.Mem.head _),
              st_skip 18 21 _ true rfl rfl rfl rfl (List.Mem.head _),
              st_plain rfl (op_pick _ _ false _ rfl rfl),
              st_plain rfl (op_assign _ _ _ _ rfl rfl),
              trivial⟩ ?_
          exact hl3 _ (Option.some.inj h).symm
      · refine ht_seqR hn (El := (_ :: (3, .ptr 1 0) :: (4, .v (.int .u8 t.Byte)) :: (5, .v (.bool (t.Byte == 0))) :: (6, .v (.bool true)) :: (7, .ptr 1 1) :: (8, .v (.int .i64 t.Len)) :: (9, .v (.bool ((decide (3 ≤ t.Len))))) :: (10, .v (.bool ((decide (3 ≤ t.Len))))) :: (11, .v (.bool false)) :: (12, .v undef) :: (13, .v undef) :: (14, .v undef) :: (15, .v (.bool false)) :: (16, .v (.bool false)) :: (17, .v undef) :: (18, .v undef) :: (19, .v undef) :: (20, .v (.bool false)) :: (21, .v (.bool false)) :: (22, .v undef) :: (23, .v undef) :: (24, .v undef) :: (25, .v (.bool false)) :: (2, .v (.bool false)) :: [])) (init := [0]) (fin := [24]) (sps := (⟨[0], [], [1], [(.slot 3)]⟩ :: ⟨[1, 0], [], [2], [(.slot 4)]⟩ :: ⟨[2], [], [3], [(.slot 5)]⟩ :: ⟨[3], [], [4], [(.slot 6)]⟩ :: ⟨[4, 0], [], [5], [(.slot 7)]⟩ :: ⟨[4, 5, 0], [], [6], [(.slot 8)]⟩ :: ⟨[4, 6], [], [7], [(.slot 9)]⟩ :: ⟨[4, 7], [], [8], [(.slot 10)]⟩ :: ⟨[8], [], [9], [(.slot 11)]⟩ :: ⟨[9], [], [10], [(.slot 12)]⟩ :: ⟨[9], [], [11], [(.slot 13)]⟩ :: ⟨[9], [], [12], [(.slot 14)]⟩ :: ⟨[9], [], [13], [(.slot 15)]⟩ :: ⟨[13], [], [14], [(.slot 16)]⟩ :: ⟨[14], [], [15], [(.slot 17)]⟩ :: ⟨[14], [], [16], [(.slot 18)]⟩ :: ⟨[14], [], [17], [(.slot 19)]⟩ :: ⟨[14], [], [18], [(.slot 20)]⟩ :: ⟨[18], [], [19], [(.slot 21)]⟩ :: ⟨[19], [], [20], [(.slot 22)]⟩ :: ⟨[19], [], [21], [(.slot 23)]⟩ :: ⟨[19], [], [22], [(.slot 24)]⟩ :: ⟨[19], [], [23], [(.slot 25)]⟩ :: ⟨[23], [], [24], [(.slot 2)]⟩ :: [])) (es' := [(2, .v (.bool false))]) (by kernel_rfl) rfl rfl
          ⟨st_plain rfl (op_fieldAddr _ _ _ _ 1 0 _ Try.underlying48 rfl sz5 rfl rfl (by decide)),
            st_plain rfl (op_load _ _ _ _ _ _ Try.underlying5 rfl rfl rfl (Nat.le_of_ble_eq_true rfl) rfl rfl rfl),
            st_plain rfl (op_bin _ _ _ _ _ rfl rfl rfl),
            st_plain rfl (op_move _ _ _ _ (congrArg (fun b => AV.v (Value.bool b)) hg1_3) rfl),
            st_run 3 6 true rfl rfl rfl (List.Mem.head _) (op_fieldAddr _ _ _ _ 1 0 _ Try.underlying48 rfl sz3 rfl rfl (by decide)),
            st_run 3 6 true rfl rfl rfl (List.Mem.head _) (op_load _ _ _ _ _ _ Try.underlying3 rfl rfl rfl (Nat.le_of_ble_eq_true rfl) rfl rfl rfl),
            st_run 3 6 true rfl rfl rfl (List.Mem.head _) (op_bin _ _ _ _ _ rfl rfl rfl),
            st_plain rfl (op_pick _ _ true _ rfl rfl),
            st_plain rfl (op_move _ _ _ _ (congrArg (fun b => AV.v (Value.bool b)) hg1_8) rfl),
            st_skip 8 11 _ true rfl rfl rfl rfl (List.Mem.head _),
            st_skip 8 11 _ true rfl rfl rfl rfl (List.Mem.head _),
            st_skip 8 11 _ true rfl rfl rfl rfl (List.Mem.head _),
            st_plain rfl (op_pick _ _ false _ rfl rfl),
            st_plain rfl (op_move _ _ _ _ rfl rfl),
            st_skip 13 16 _ true rfl rfl rfl rfl (List.Mem.head _),
            st_skip 13 16 _ true rfl rfl rfl rfl (List.Mem.head _),
            st_skip 13 16 _ true rfl rfl rfl rfl (List.Mem.head _),
            st_plain rfl (op_pick _ _ false _ rfl rfl),
            st_plain rfl (op_move _ _ _ _ rfl rfl),
            st_skip 18 21 _ true rfl rfl rfl rfl (List.Mem.head _),
            st_skip 18 21 _ true rfl rfl rfl rfl (List.Mem.head _),
            st_skip 18 21 _ true rfl rfl rfl rfl (List.Mem.head _),
            st_plain rfl (op_pick _ _ false _ rfl rfl),
            st_plain rfl (op_assign _ _ _ _ rfl rfl),
            trivial⟩ ?_
        exact hl3 _ (Option.some.inj h).symm
    · refine ht_seqR hn (El := (_ :: (3, .ptr 1 0) :: (4, .v (.int .u8 t.Byte)) :: (5, .v (.bool (t.Byte == 0))) :: (6, .v (.bool false)) :: (7, .v undef) :: (8, .v undef) :: (9, .v undef) :: (10, .v (.bool false)) :: (11, .v (.bool false)) :: (12, .v undef) :: (13, .v undef) :: (14, .v undef) :: (15, .v (.bool false)) :: (16, .v (.bool false)) :: (17, .v undef) :: (18, .v undef) :: (19, .v undef) :: (20, .v (.bool false)) :: (21, .v (.bool false)) :: (22, .v undef) :: (23, .v undef) :: (24, .v undef) :: (25, .v (.bool false)) :: (2, .v (.bool false)) :: [])) (init := [0]) (fin := [24]) (sps := (⟨[0], [], [1], [(.slot 3)]⟩ :: ⟨[1, 0], [], [2], [(.slot 4)]⟩ :: ⟨[2], [], [3], [(.slot 5)]⟩ :: ⟨[3], [], [4], [(.slot 6)]⟩ :: ⟨[4], [], [5], [(.slot 7)]⟩ :: ⟨[4], [], [6], [(.slot 8)]⟩ :: ⟨[4], [], [7], [(.slot 9)]⟩ :: ⟨[4], [], [8], [(.slot 10)]⟩ :: ⟨[8], [], [9], [(.slot 11)]⟩ :: ⟨[9], [], [10], [(.slot 12)]⟩ :: ⟨[9], [], [11], [(.slot 13)]⟩ :: ⟨[9], [], [12], [(.slot 14)]⟩ :: ⟨[9], [], [13], [(.slot 15)]⟩ :: ⟨[13], [], [14], [(.slot 16)]⟩ :: ⟨[14], [], [15], [(.slot 17)]⟩ :: ⟨[14], [], [16], [(.slot 18)]⟩ :: ⟨[14], [], [17], [(.slot 19)]⟩ :: ⟨[14], [], [18], [(.slot 20)]⟩ :: ⟨[18], [], [19], [(.slot 21)]⟩ :: ⟨[19], [], [20], [(.slot 22)]⟩ :: ⟨[19], [], [21], [(.slot 23)]⟩ :: ⟨[19], [], [22], [(.slot 24)]⟩ :: ⟨[19], [], [23], [(.slot 25)]⟩ :: ⟨[23], [], [24], [(.slot 2)]⟩ :: [])) (es' := [(2, .v (.bool false))]) (by kernel_rfl) rfl rfl
        ⟨st_plain rfl (op_fieldAddr _ _ _ _ 1 0 _ Try.underlying48 rfl sz5 rfl rfl (by decide)),
          st_plain rfl (op_load _ _ _ _ _ _ Try.underlying5 rfl rfl rfl (Nat.le_of_ble_eq_true rfl) rfl rfl rfl),
          st_plain rfl (op_bin _ _ _ _ _ rfl rfl rfl),
          st_plain rfl (op_move _ _ _ _ (congrArg (fun b => AV.v (Value.bool b)) hg1_3) rfl),
          st_skip 3 6 _ true rfl rfl rfl rfl (List.Mem.head _),
          st_skip 3 6 _ true rfl rfl rfl rfl (List.Mem.head _),
          st_skip 3 6 _ true rfl rfl rfl rfl (List.Mem.head _),
          st_plain rfl (op_pick _ _ false _ rfl rfl),
          st_plain rfl (op_move _ _ _ _ rfl rfl),
          st_skip 8 11 _ true rfl rfl rfl rfl (List.Mem.head _),
          st_skip 8 11 _ true rfl rfl rfl rfl (List.Mem.head _),
          st_skip 8 11 _ true rfl rfl rfl rfl (List.Mem.head _),
          st_plain rfl (op_pick _ _ false _ rfl rfl),
          st_plain rfl (op_move _ _ _ _ rfl rfl),
          st_skip 13 16 _ true rfl rfl rfl rfl (List.Mem.head _),
          st_skip 13 16 _ true rfl rfl rfl rfl (List.Mem.head _),
          st_skip 13 16 _ true rfl rfl rfl rfl (List.Mem.head _),
          st_plain rfl (op_pick _ _ false _ rfl rfl),
          st_plain rfl (op_move _ _ _ _ rfl rfl),
          st_skip 18 21 _ true rfl rfl rfl rfl (List.Mem.head _),
          st_skip 18 21 _ true rfl rfl rfl rfl (List.Mem.head _),
          st_skip 18 21 _ true rfl rfl rfl rfl (List.Mem.head _),
          st_plain rfl (op_pick _ _ false _ rfl rfl),
          st_plain rfl (op_assign _ _ _ _ rfl rfl),
          trivial⟩ ?_
      exact hl3 _ (Option.some.inj h).symm

set_option maxHeartbeats 1000000 in
theorem ok_match_Check (l : (List T_Tok)) (r : Int) (h : Sh.match_Check l = some r) : FnOK Try.prog 35 [.fl .shr 3 (List.flatten (List.map T_Tok.enc l))] (.v (.int .i64 r)) := by
  unfold Sh.match_Check at h
  refine fn_ok Try.func35 rfl (Nat.le_of_ble_eq_true rfl) rfl rfl fun g0 hn hio => ?_
  refine ht_seq ?_
  refine ht_seqR hn (El := [_, (2, .v (.int .i64 0))]) (init := [0]) (fin := [0]) (sps := [⟨[], [], [1], [(.slot 2)]⟩]) (es' := [(_, _)]) (by kernel_rfl) rfl rfl
    ⟨st_plain rfl (op_assign _ _ _ _ rfl rfl),
      trivial⟩ ?_
  refine pt_then ?_
  refine ht_seq ?_
  refine ht_seqR hn (El := [_, (3, .v (.int .i64 0))]) (init := [0]) (fin := [0, 1]) (sps := [⟨[], [], [1], [(.slot 3)]⟩]) (es' := [(_, _), (3, .v (.int .i64 0))]) (by kernel_rfl) rfl rfl
    ⟨st_plain rfl (op_assign _ _ _ _ rfl rfl),
      trivial⟩ ?_
  refine pt_then ?_
  refine ht_seq ?_
  refine ht_seq ?_
  refine ht_seqR hn (El := [_, _, (6, .fl .shr 3 (List.flatten (List.map T_Tok.enc l))), (7, .v (.int .i64 (l.length : Int))), (8, .v (.int .i64 0))]) (init := [0, 1]) (fin := [1, 2, 3, 4]) (sps := [⟨[0], [], [2], [(.slot 6)]⟩, ⟨[2], [], [3], [(.slot 7)]⟩, ⟨[], [], [4], [(.slot 8)]⟩]) (es' := [(_, _), (6, .fl .shr 3 (List.flatten (List.map T_Tok.enc l))), (7, .v (.int .i64 (l.length : Int))), (8, .v (.int .i64 0))]) (by kernel_rfl) rfl rfl
    ⟨st_plain rfl (op_move _ _ _ _ rfl rfl),
      st_plain rfl (op_len_fl _ _ _ Try.underlying22 rfl (by decide) (flat_len T_Tok.len _)),
      st_plain rfl (op_move _ _ _ _ rfl rfl),
      trivial⟩ ?_
  refine pt_then ?_
  refine ht_loopS h (fun ((s115, s116) : Int × Int) => [(3, .v (.int .i64 s115)), (6, .fl .shr 3 (List.flatten (List.map T_Tok.enc l))), (7, .v (.int .i64 (l.length : Int))), (8, .v (.int .i64 s116))]) (fun (s170 : Int) => [(3, .v (.int .i64 s170))]) ?_ ?_
  · rintro s170 h
    refine pt_then ?_
    refine ht_seq ?_
    refine ht_seq ?_
    refine ht_seqR hn (El := [_, (37, .v (.int .i64 s170)), (38, .v (.bool ((decide (4096 < s170)))))]) (init := [0]) (fin := [2]) (sps := [⟨[0], [], [1], [(.slot 37)]⟩, ⟨[1], [], [2], [(.slot 38)]⟩]) (es' := [(38, .v (.bool ((decide (4096 < s170)))))]) (by kernel_rfl) rfl rfl
      ⟨st_plain rfl (op_move _ _ _ _ rfl rfl),
        st_plain rfl (op_bin _ _ _ _ _ rfl rfl rfl),
        trivial⟩ ?_
    refine pt_then ?_
    refine ht_cond _ rfl (fun hb230 => ?_) (fun hb230 => ?_)
    · have h := cond_t hb230 h
      refine ht_seq ?_
      refine ht_seqR hn (El := [_, (2, .v (.int .i64 2))]) (init := [0]) (fin := [1]) (sps := [⟨[], [], [1], [(.slot 2)]⟩]) (es' := [(2, .v (.int .i64 2))]) (by kernel_rfl) rfl rfl
        ⟨st_plain rfl (op_assign _ _ _ _ rfl rfl),
          trivial⟩ ?_
      refine pt_then ?_
      refine ht_ret ?_
      refine pt_r_then ?_
      obtain rfl := Option.some.inj h
      exact pt_ret hio rfl (.tmp _ _ .nil) rfl rfl
    · have h := cond_f hb230 h
      refine ht_skip ?_
      refine pt_then ?_
      refine ht_seq ?_
      refine ht_seqR hn (El := [_, (2, .v (.int .i64 0))]) (init := [0]) (fin := [1]) (sps := [⟨[], [], [1], [(.slot 2)]⟩]) (es' := [(2, .v (.int .i64 0))]) (by kernel_rfl) rfl rfl
        ⟨st_plain rfl (op_assign _ _ _ _ rfl rfl),
          trivial⟩ ?_
      refine pt_then ?_
      refine ht_ret ?_
      obtain rfl := Option.some.inj h
      exact pt_ret hio rfl (.tmp _ _ .nil) rfl rfl
  · rintro u171 hl172 hr173 ⟨s115, s116⟩ rr176 h ho174
    refine ht_seq ?_
    refine ht_seqR hn (El := [_, _, _, _, (9, .v (.bool ((decide (s116 < (l.length : Int))))))]) (init := [0, 1, 2, 3]) (fin := [0, 1, 2, 3, 4]) (sps := [⟨[3, 2], [], [4], [(.slot 9)]⟩]) (es' := [(_, _), (_, _), (_, _), (_, _), (9, .v (.bool ((decide (s116 < (l.length : Int))))))]) (by kernel_rfl) rfl rfl
      ⟨st_plain rfl (op_bin _ _ _ _ _ rfl rfl rfl),
        trivial⟩ ?_
    refine pt_then ?_
    refine ht_seq ?_
    refine ht_cond _ rfl (fun hb177 => ?_) (fun hb177 => ?_)
    · have h := cond_t hb177 h
      refine ht_skip ?_
      refine pt_then ?_
      refine ht_seq ?_
      refine ht_joinS h (fun (s202 : Int) => [(6, .fl .shr 3 (List.flatten (List.map T_Tok.enc l))), (7, .v (.int .i64 (l.length : Int))), (8, .v (.int .i64 s116)), (3, .v (.int .i64 s202))]) ?_ ?_
      · rintro s202 h
        refine pt_then ?_
        obtain ⟨v59, hv59, h⟩ := bind_some h
        refine ht_seqR hn (El := [_, _, _, _, (36, .v (.int .i64 v59)), (8, .v (.int .i64 v59))]) (init := [0, 1, 2, 3]) (fin := [0, 1, 3, 5]) (sps := [⟨[2], [], [4], [(.slot 36)]⟩, ⟨[4], [2], [5], [(.slot 8)]⟩]) (es' := [(_, _), (_, _), (_, _), (8, .v (.int .i64 v59))]) (by kernel_rfl) rfl rfl
          ⟨st_plain rfl (op_bin _ _ _ _ _ rfl rfl (ibind (f := Value.int .i64) (Option.some.inj hv59))),
            st_plain rfl (LOp.drop [_] (op_move _ _ _ _ rfl rfl)),
            trivial⟩ ?_
        refine pt_pick [2, 0, 1, 3] (by kernel_rfl) (es' := [(_, _), (_, _), (_, _), (_, _)]) rfl ?_
        exact pt_next _ (Option.some.inj h).symm rfl
      · intro u203 h hl204 hr205
        refine ht_block ?_
        refine ht_seq ?_
        obtain ⟨v2, hv2, h⟩ := bind_some h
        obtain ⟨v3, hv3, h⟩ := bind_some h
        refine ht_seqR hn (El := [_, _, _, _, _, (10, .eref (.slot 6) (v2 * 3)), (11, .agg [.v (.int .u8 v3.Byte), .v (.int .i64 v3.Len), .v (.int .i64 v3.Dist)]), (5, .box 48 [.v (.int .u8 0), .v (.int .i64 0), .v (.int .i64 0)]), (5, .box 48 [.v (.int .u8 v3.Byte), .v (.int .i64 v3.Len), .v (.int .i64 v3.Dist)])]) (init := [0, 1, 2, 3, 4]) (fin := [0, 1, 2, 3, 8]) (sps := [⟨[1, 3], [], [5], [(.slot 10)]⟩, ⟨[5, 1], [], [6], [(.slot 11)]⟩, ⟨[], [], [7], [(.slot 5)]⟩, ⟨[6], [7], [8], [.cell 5 0, .cell 5 1, .cell 5 2]⟩]) (es' := [(_, _), (_, _), (_, _), (_, _), (5, .box 48 [.v (.int .u8 v3.Byte), .v (.int .i64 v3.Len), .v (.int .i64 v3.Dist)])]) (by kernel_rfl) rfl rfl
          ⟨st_plain rfl (op_ix _ _ _ _ _ _ _ _ Try.underlying22 sz48 (by decide) rfl rfl rfl (ix_ok hv2).1 (flat_lt T_Tok.len (ix_ok hv2).2) rfl),
            st_plain rfl (op_load_eA _ _ _ _ _ _ _ Try.underlying48 rfl sz48 rfl rfl (flat_get T_Tok.len hv3) rfl (by decide)),
            st_plain rfl (op_alloc _ _ zr48),
            st_plain rfl (op_store _ _ _ _ _ _ _ _ sz48 rfl rfl rfl rfl (Nat.le_of_ble_eq_true rfl) rfl rfl),
            trivial⟩ ?_
        refine pt_then ?_
        refine ht_joinS h (fun (s216 : Int) => [(6, .fl .shr 3 (List.flatten (List.map T_Tok.enc l))), (7, .v (.int .i64 (l.length : Int))), (8, .v (.int .i64 s116)), (3, .v (.int .i64 s216))]) ?_ ?_
        · rintro s216 h
          refine pt_inb ?_
          exact hl204 _ (Option.some.inj h).symm
        · intro u217 h hl218 hr219
          refine ht_block ?_
          refine ht_seq ?_
          refine ht_joinS h (fun (s220 : Bool) => [(3, .v (.int .i64 s115)), (6, .fl .shr 3 (List.flatten (List.map T_Tok.enc l))), (7, .v (.int .i64 (l.length : Int))), (8, .v (.int .i64 s116)), (5, .box 48 [.v (.int .u8 v3.Byte), .v (.int .i64 v3.Len), .v (.int .i64 v3.Dist)]), (12, .v (.bool s220))]) ?_ ?_
          · rintro s220 h
            refine pt_then ?_
            refine ht_cond _ rfl (fun hb224 => ?_) (fun hb224 => ?_)
            · have h := cond_t hb224 h
              obtain ⟨v9, hv9, h⟩ := bind_some h
              refine ht_seqR hn (El := [_, _, _, _, _, _, (21, .v (.int .i64 s115)), (22, .v (.int .i64 v9)), (3, .v (.int .i64 v9))]) (init := [0, 1, 2, 3, 4, 5]) (fin := [1, 2, 3, 8]) (sps := [⟨[0], [], [6], [(.slot 21)]⟩, ⟨[6], [], [7], [(.slot 22)]⟩, ⟨[7], [0], [8], [(.slot 3)]⟩]) (es' := [(_, _), (_, _), (_, _), (3, .v (.int .i64 v9))]) (by kernel_rfl) rfl rfl
                ⟨st_plain rfl (op_move _ _ _ _ rfl rfl),
                  st_plain rfl (op_bin _ _ _ _ _ rfl rfl (ibind (f := Value.int .i64) (Option.some.inj hv9))),
                  st_plain rfl (LOp.drop [_] (op_assign _ _ _ _ rfl rfl)),
                  trivial⟩ ?_
              refine pt_inb ?_
              exact hl218 _ (Option.some.inj h).symm
            · have h := cond_f hb224 h
              refine ht_seq ?_
              refine ht_joinS h (fun (s225 : Bool) => [(3, .v (.int .i64 s115)), (6, .fl .shr 3 (List.flatten (List.map T_Tok.enc l))), (7, .v (.int .i64 (l.length : Int))), (8, .v (.int .i64 s116)), (5, .box 48 [.v (.int .u8 v3.Byte), .v (.int .i64 v3.Len), .v (.int .i64 v3.Dist)]), (23, .v (.bool s225))]) ?_ ?_
              · rintro s225 h
                refine pt_then ?_
                refine ht_cond _ rfl (fun hb229 => ?_) (fun hb229 => ?_)
                · have h := cond_t hb229 h
                  obtain ⟨v16, hv16, h⟩ := bind_some h
                  refine ht_seqR hn (El := [_, _, _, _, _, _, (32, .v (.int .i64 s115)), (33, .ptr 5 1), (34, .v (.int .i64 v3.Len)), (35, .v (.int .i64 v16)), (3, .v (.int .i64 v16))]) (init := [0, 1, 2, 3, 4, 5]) (fin := [1, 2, 3, 10]) (sps := [⟨[0], [], [6], [(.slot 32)]⟩, ⟨[4], [], [7], [(.slot 33)]⟩, ⟨[7, 4], [], [8], [(.slot 34)]⟩, ⟨[6, 8], [], [9], [(.slot 35)]⟩, ⟨[9], [0], [10], [(.slot 3)]⟩]) (es' := [(_, _), (_, _), (_, _), (3, .v (.int .i64 v16))]) (by kernel_rfl) rfl rfl
                    ⟨st_plain rfl (op_move _ _ _ _ rfl rfl),
                      st_plain rfl (op_fieldAddr _ _ _ _ 5 0 _ Try.underlying48 rfl sz3 rfl rfl (by decide)),
                      st_plain rfl (op_load _ _ _ _ _ _ Try.underlying3 rfl rfl rfl (Nat.le_of_ble_eq_true rfl) rfl rfl rfl),
                      st_plain rfl (op_bin _ _ _ _ _ rfl rfl (ibind (f := Value.int .i64) (Option.some.inj hv16))),
                      st_plain rfl (LOp.drop [_] (op_assign _ _ _ _ rfl rfl)),
                      trivial⟩ ?_
                  refine pt_inb ?_
                  exact hl218 _ (Option.some.inj h).symm
                · have h := cond_f hb229 h
                  refine ht_seq ?_
                  refine ht_seqR hn (El := [_, _, _, _, _, _, (2, .v (.int .i64 1))]) (init := [0, 1, 2, 3, 4, 5]) (fin := [6]) (sps := [⟨[], [], [6], [(.slot 2)]⟩]) (es' := [(2, .v (.int .i64 1))]) (by kernel_rfl) rfl rfl
                    ⟨st_plain rfl (op_assign _ _ _ _ rfl rfl),
                      trivial⟩ ?_
                  refine pt_then ?_
                  refine ht_ret ?_
                  refine pt_r_in ?_
                  refine pt_r_in ?_
                  refine pt_r_then ?_
                  refine pt_r_then ?_
                  refine pt_r_in ?_
                  refine pt_r_then ?_
                  have h := hr219 _ (Option.some.inj h).symm
                  have h := hr205 _ (Option.some.inj h).symm
                  have h := hr173 _ (ho174 _ (Option.some.inj h).symm).symm
                  obtain rfl := Option.some.inj h
                  exact pt_ret hio rfl (.tmp _ _ .nil) rfl rfl
              · intro u226 h hl227 hr228
                obtain ⟨v10, hv10, h⟩ := bind_some h
                refine cond_some h (fun hg8_2 h => ?_) (fun hg8_2 h => ?_)
                · refine ht_seqR hn (El := (_ :: _ :: _ :: _ :: _ :: _ :: (24, .agg [.v (.int .u8 v3.Byte), .v (.int .i64 v3.Len), .v (.int .i64 v3.Dist)]) :: (25, .v (.bool v10)) :: (26, .v (.bool true)) :: (27, .ptr 5 2) :: (28, .v (.int .i64 v3.Dist)) :: (29, .v (.int .i64 s115)) :: (30, .v (.bool ((decide (v3.Dist ≤ s115))))) :: (31, .v (.bool ((decide (v3.Dist ≤ s115))))) :: (23, .v (.bool ((decide (v3.Dist ≤ s115))))) :: [])) (init := [0, 1, 2, 3, 4, 5]) (fin := [0, 1, 2, 3, 4, 14]) (sps := [⟨[4], [], [6], [(.slot 24)]⟩, ⟨[6], [], [7], [(.slot 25)]⟩, ⟨[7], [], [8], [(.slot 26)]⟩, ⟨[8, 4], [], [9], [(.slot 27)]⟩, ⟨[8, 9, 4], [], [10], [(.slot 28)]⟩, ⟨[8, 0], [], [11], [(.slot 29)]⟩, ⟨[8, 10, 11], [], [12], [(.slot 30)]⟩, ⟨[8, 12], [], [13], [(.slot 31)]⟩, ⟨[13], [], [14], [(.slot 23)]⟩]) (es' := [(_, _), (_, _), (_, _), (_, _), (_, _), (23, .v (.bool ((decide (v3.Dist ≤ s115)))))]) (by kernel_rfl) rfl rfl
                    ⟨st_plain rfl (op_loadA _ _ _ _ _ _ _ Try.underlying48 rfl sz48 rfl rfl (Nat.le_of_ble_eq_true rfl) rfl rfl),
                      st_plain rfl (op_call _ _ 43 _ _ rfl Try.call43 rfl (ok_match_validMatch v3 _ hv10) rfl rfl),
                      st_plain rfl (op_move _ _ _ _ (congrArg (fun b => AV.v (Value.bool b)) hg8_2) rfl),
                      st_run 2 26 true rfl rfl rfl (List.Mem.head _) (op_fieldAddr _ _ _ _ 5 0 _ Try.underlying48 rfl sz3 rfl rfl (by decide)),
                      st_run 2 26 true rfl rfl rfl (List.Mem.head _) (op_load _ _ _ _ _ _ Try.underlying3 rfl rfl rfl (Nat.le_of_ble_eq_true rfl) rfl rfl rfl),
                      st_run 2 26 true rfl rfl rfl (List.Mem.head _) (op_move _ _ _ _ rfl rfl),
                      st_run 2 26 true rfl rfl rfl (List.Mem.head _) (op_bin _ _ _ _ _ rfl rfl rfl),
                      st_plain rfl (op_pick _ _ true _ rfl rfl),
                      st_plain rfl (op_assign _ _ _ _ rfl rfl),
                      trivial⟩ ?_
                  exact hl227 _ (Option.some.inj h).symm
                · refine ht_seqR hn (El := (_ :: _ :: _ :: _ :: _ :: _ :: (24, .agg [.v (.int .u8 v3.Byte), .v (.int .i64 v3.Len), .v (.int .i64 v3.Dist)]) :: (25, .v (.bool v10)) :: (26, .v (.bool false)) :: (27, .v undef) :: (28, .v undef) :: (29, .v undef) :: (30, .v undef) :: (31, .v (.bool false)) :: (23, .v (.bool false)) :: [])) (init := [0, 1, 2, 3, 4, 5]) (fin := [0, 1, 2, 3, 4, 14]) (sps := [⟨[4], [], [6], [(.slot 24)]⟩, ⟨[6], [], [7], [(.slot 25)]⟩, ⟨[7], [], [8], [(.slot 26)]⟩, ⟨[8], [], [9], [(.slot 27)]⟩, ⟨[8], [], [10], [(.slot 28)]⟩, ⟨[8], [], [11], [(.slot 29)]⟩, ⟨[8], [], [12], [(.slot 30)]⟩, ⟨[8], [], [13], [(.slot 31)]⟩, ⟨[13], [], [14], [(.slot 23)]⟩]) (es' := [(_, _), (_, _), (_, _), (_, _), (_, _), (23, .v (.bool false))]) (by kernel_rfl) rfl rfl
                    ⟨st_plain rfl (op_loadA _ _ _ _ _ _ _ Try.underlying48 rfl sz48 rfl rfl (Nat.le_of_ble_eq_true rfl) rfl rfl),
                      st_plain rfl (op_call _ _ 43 _ _ rfl Try.call43 rfl (ok_match_validMatch v3 _ hv10) rfl rfl),
                      st_plain rfl (op_move _ _ _ _ (congrArg (fun b => AV.v (Value.bool b)) hg8_2) rfl),
                      st_skip 2 26 _ true rfl rfl rfl rfl (List.Mem.head _),
                      st_skip 2 26 _ true rfl rfl rfl rfl (List.Mem.head _),
                      st_skip 2 26 _ true rfl rfl rfl rfl (List.Mem.head _),
                      st_skip 2 26 _ true rfl rfl rfl rfl (List.Mem.head _),
                      st_plain rfl (op_pick _ _ false _ rfl rfl),
                      st_plain rfl (op_assign _ _ _ _ rfl rfl),
                      trivial⟩ ?_
                  exact hl227 _ (Option.some.inj h).symm
          · intro u221 h hl222 hr223
            refine cond_some h (fun hg6_3 h => ?_) (fun hg6_3 h => ?_)
            · refine ht_seqR hn (El := [_, _, _, _, _, (13, .ptr 5 1), (14, .v (.int .i64 v3.Len)), (15, .v (.bool (v3.Len == 0))), (16, .v (.bool true)), (17, .ptr 5 2), (18, .v (.int .i64 v3.Dist)), (19, .v (.bool (v3.Dist == 0))), (20, .v (.bool (v3.Dist == 0))), (12, .v (.bool (v3.Dist == 0)))]) (init := [0, 1, 2, 3, 4]) (fin := [0, 1, 2, 3, 4, 13]) (sps := [⟨[4], [], [5], [(.slot 13)]⟩, ⟨[5, 4], [], [6], [(.slot 14)]⟩, ⟨[6], [], [7], [(.slot 15)]⟩, ⟨[7], [], [8], [(.slot 16)]⟩, ⟨[8, 4], [], [9], [(.slot 17)]⟩, ⟨[8, 9, 4], [], [10], [(.slot 18)]⟩, ⟨[8, 10], [], [11], [(.slot 19)]⟩, ⟨[8, 11], [], [12], [(.slot 20)]⟩, ⟨[12], [], [13], [(.slot 12)]⟩]) (es' := [(_, _), (_, _), (_, _), (_, _), (_, _), (12, .v (.bool (v3.Dist == 0)))]) (by kernel_rfl) rfl rfl
                ⟨st_plain rfl (op_fieldAddr _ _ _ _ 5 0 _ Try.underlying48 rfl sz3 rfl rfl (by decide)),
                  st_plain rfl (op_load _ _ _ _ _ _ Try.underlying3 rfl rfl rfl (Nat.le_of_ble_eq_true rfl) rfl rfl rfl),
                  st_plain rfl (op_bin _ _ _ _ _ rfl rfl rfl),
                  st_plain rfl (op_move _ _ _ _ (congrArg (fun b => AV.v (Value.bool b)) hg6_3) rfl),
                  st_run 3 16 true rfl rfl rfl (List.Mem.head _) (op_fieldAddr _ _ _ _ 5 0 _ Try.underlying48 rfl sz3 rfl rfl (by decide)),
                  st_run 3 16 true rfl rfl rfl (List.Mem.head _) (op_load _ _ _ _ _ _ Try.underlying3 rfl rfl rfl (Nat.le_of_ble_eq_true rfl) rfl rfl rfl),
                  st_run 3 16 true rfl rfl rfl (List.Mem.head _) (op_bin _ _ _ _ _ rfl rfl rfl),
                  st_plain rfl (op_pick _ _ true _ rfl rfl),
                  st_plain rfl (op_assign _ _ _ _ rfl rfl),
                  trivial⟩ ?_
              exact hl222 _ (Option.some.inj h).symm
            · refine ht_seqR hn (El := [_, _, _, _, _, (13, .ptr 5 1), (14, .v (.int .i64 v3.Len)), (15, .v (.bool (v3.Len == 0))), (16, .v (.bool false)), (17, .v undef), (18, .v undef), (19, .v undef), (20, .v (.bool false)), (12, .v (.bool false))]) (init := [0, 1, 2, 3, 4]) (fin := [0, 1, 2, 3, 4, 13]) (sps := [⟨[4], [], [5], [(.slot 13)]⟩, ⟨[5, 4], [], [6], [(.slot 14)]⟩, ⟨[6], [], [7], [(.slot 15)]⟩, ⟨[7], [], [8], [(.slot 16)]⟩, ⟨[8], [], [9], [(.slot 17)]⟩, ⟨[8], [], [10], [(.slot 18)]⟩, ⟨[8], [], [11], [(.slot 19)]⟩, ⟨[8], [], [12], [(.slot 20)]⟩, ⟨[12], [], [13], [(.slot 12)]⟩]) (es' := [(_, _), (_, _), (_, _), (_, _), (_, _), (12, .v (.bool false))]) (by kernel_rfl) rfl rfl
                ⟨st_plain rfl (op_fieldAddr _ _ _ _ 5 0 _ Try.underlying48 rfl sz3 rfl rfl (by decide)),
                  st_plain rfl (op_load _ _ _ _ _ _ Try.underlying3 rfl rfl rfl (Nat.le_of_ble_eq_true rfl) rfl rfl rfl),
                  st_plain rfl (op_bin _ _ _ _ _ rfl rfl rfl),
                  st_plain rfl (op_move _ _ _ _ (congrArg (fun b => AV.v (Value.bool b)) hg6_3) rfl),
                  st_skip 3 16 _ true rfl rfl rfl rfl (List.Mem.head _),
                  st_skip 3 16 _ true rfl rfl rfl rfl (List.Mem.head _),
                  st_skip 3 16 _ true rfl rfl rfl rfl (List.Mem.head _),
                  st_plain rfl (op_pick _ _ false _ rfl rfl),
                  st_plain rfl (op_assign _ _ _ _ rfl rfl),
                  trivial⟩ ?_
              exact hl222 _ (Option.some.inj h).symm
    · have h := cond_f hb177 h
      refine ht_exit ?_
      refine pt_x_then ?_
      refine pt_x_then ?_
      refine pt_x_in ?_
      refine pt_pick [0] (by kernel_rfl) (es' := [(_, _)]) rfl ?_
      exact hl172 _ (ho174 _ (Option.some.inj h).symm).symm

set_option maxHeartbeats 1000000 in
theorem ok_sym_Weights (l : (List T_Tok)) (r : ((List Int) × (List Int) × Int)) (h : Sh.sym_Weights l = some r) : FnOK Try.prog 20 [.fl .shr 3 (List.flatten (List.map T_Tok.enc l))] (.tup [.fl (.own 3) 1 (List.map (Value.int .i64) r.1), .fl (.own 3) 1 (List.map (Value.int .i64) r.2.1), .v (.int .i64 r.2.2)]) := by
  unfold Sh.sym_Weights at h
  refine fn_ok Try.func20 rfl (Nat.le_of_ble_eq_true rfl) rfl rfl fun g0 hn hio => ?_
  refine ht_seq ?_
  refine ht_seqR hn (El := [_, (2, .v (.slice none 0 0)), (3, .v (.slice none 0 0)), (4, .v (.int .i64 0))]) (init := [0]) (fin := [0]) (sps := [⟨[], [], [1], [(.slot 2)]⟩, ⟨[], [], [2], [(.slot 3)]⟩, ⟨[], [], [3], [(.slot 4)]⟩]) (es' := [(_, _)]) (by kernel_rfl) rfl rfl
    ⟨st_plain rfl (op_assign _ _ _ _ rfl rfl),
      st_plain rfl (op_assign _ _ _ _ rfl rfl),
      st_plain rfl (op_assign _ _ _ _ rfl rfl),
      trivial⟩ ?_
  refine pt_then ?_
  refine ht_seq ?_
  refine ht_seq ?_
  obtain ⟨v1, hv1, h⟩ := bind_some h
  refine ht_seqR hn (El := [_, (16, .fl .shr 3 (List.flatten (List.map T_Tok.enc l))), (17, .v (.int .i64 v1)), (5, .v (.int .i64 v1))]) (init := [0]) (fin := [0, 3]) (sps := [⟨[0], [], [1], [(.slot 16)]⟩, ⟨[1], [], [2], [(.slot 17)]⟩, ⟨[2], [], [3], [(.slot 5)]⟩]) (es' := [(_, _), (5, .v (.int .i64 v1))]) (by kernel_rfl) rfl rfl
    ⟨st_plain rfl (op_move _ _ _ _ rfl rfl),
      st_plain rfl (op_call _ _ 35 _ _ rfl Try.call35 rfl (ok_match_Check l _ hv1) rfl rfl),
      st_plain rfl (op_assign _ _ _ _ rfl rfl),
      trivial⟩ ?_
  refine pt_then ?_
  refine ht_seq ?_
  refine ht_seqR hn (El := [_, _, (18, .v (.int .i64 v1)), (19, .v (.bool (v1 != 0)))]) (init := [0, 1]) (fin := [0, 1, 3]) (sps := [⟨[1], [], [2], [(.slot 18)]⟩, ⟨[2], [], [3], [(.slot 19)]⟩]) (es' := [(_, _), (_, _), (19, .v (.bool (v1 != 0)))]) (by kernel_rfl) rfl rfl
    ⟨st_plain rfl (op_move _ _ _ _ rfl rfl),
      st_plain rfl (op_bin _ _ _ _ _ rfl rfl rfl),
      trivial⟩ ?_
  refine pt_then ?_
  refine ht_cond _ rfl (fun hb2 => ?_) (fun hb2 => ?_)
  · have h := cond_t hb2 h
    refine ht_seq ?_
    refine ht_seqR hn (El := [_, _, _, (20, .v (.int .i64 v1)), (2, .v (.slice none 0 0)), (3, .v (.slice none 0 0)), (4, .v (.int .i64 v1))]) (init := [0, 1, 2]) (fin := [4, 5, 6]) (sps := [⟨[1], [], [3], [(.slot 20)]⟩, ⟨[], [], [4], [(.slot 2)]⟩, ⟨[], [], [5], [(.slot 3)]⟩, ⟨[3], [], [6], [(.slot 4)]⟩]) (es' := [(2, .v (.slice none 0 0)), (3, .v (.slice none 0 0)), (4, .v (.int .i64 v1))]) (by kernel_rfl) rfl rfl
      ⟨st_plain rfl (op_move _ _ _ _ rfl rfl),
        st_plain rfl (op_assign _ _ _ _ rfl rfl),
        st_plain rfl (op_assign _ _ _ _ rfl rfl),
        st_plain rfl (op_assign _ _ _ _ rfl rfl),
        trivial⟩ ?_
    refine pt_then ?_
    refine ht_ret ?_
    refine pt_sub (fs := [(2, .fl (.own 3) 1 (List.map (Value.int .i64) [])), (3, .fl (.own 3) 1 (List.map (Value.int .i64) [])), (4, .v (.int .i64 v1))]) (.sub _ (sub_nil 3 1) rfl (.sub _ (sub_nil 3 1) rfl (.same _ .nil))) ?_
    refine pt_r_then ?_
    obtain rfl := Option.some.inj h
    exact pt_ret hio rfl (.tmp _ _ (.tmp _ _ (.tmp _ _ .nil))) rfl rfl
  · have h := cond_f hb2 h
    refine ht_skip ?_
    refine pt_then ?_
    refine ht_seq ?_
    obtain ⟨v3, hv3, h⟩ := bind_some h
    obtain ⟨v4, hv4, h⟩ := bind_some h
    refine ht_anyR (by kernel_rfl) hn (El := [_, _, _, (21, .fl (.own 3) 1 (List.map (Value.int .i64) v3)), (22, .fl (.own 3) 1 (List.map (Value.int .i64) v4)), (2, .fl (.own 3) 1 (List.map (Value.int .i64) v3)), (3, .fl (.own 3) 1 (List.map (Value.int .i64) v4))]) (init := [0, 1, 2]) (fin := [0, 5, 6]) (sps := [⟨[], [], [3], [(.slot 21)]⟩, ⟨[], [], [4], [(.slot 22)]⟩, ⟨[], [3], [5], [(.slot 2)]⟩, ⟨[], [4], [6], [(.slot 3)]⟩]) (es' := [(_, _), (2, .fl (.own 3) 1 (List.map (Value.int .i64) v3)), (3, .fl (.own 3) 1 (List.map (Value.int .i64) v4))]) (by kernel_rfl) rfl rfl
      ⟨st_plain rfl (op_mk (f := Value.int .i64) _ _ _ _ el28 (by decide) zr3 rfl rfl rfl hv3),
        st_plain rfl (op_mk (f := Value.int .i64) _ _ _ _ el28 (by decide) zr3 rfl rfl rfl hv4),
        st_plain rfl (op_assign_take _ _ _ _ rfl),
        st_plain rfl (op_assign_take _ _ _ _ rfl),
        trivial⟩ ?_
    refine pt_then ?_
    refine ht_seq ?_
    obtain ⟨v5, hv5, h⟩ := bind_some h
    obtain ⟨v6, hv6, h⟩ := bind_some h
    refine ht_seqR hn (El := [_, _, _, (23, .same (.slot 2)), (24, .eref (.slot 2) (v5 * 1)), (2, .fl (.own 3) 1 (List.map (Value.int .i64) v6))]) (init := [0, 1, 2]) (fin := [0, 5, 2]) (sps := [⟨[1], [], [3], [(.slot 23)]⟩, ⟨[3, 1], [], [4], [(.slot 24)]⟩, ⟨[4], [1], [5], []⟩]) (es' := [(_, _), (2, .fl (.own 3) 1 (List.map (Value.int .i64) v6)), (_, _)]) (by kernel_rfl) rfl rfl
      ⟨st_plain rfl (op_move _ _ _ _ rfl rfl),
        st_plain rfl (op_ix _ _ _ _ _ _ _ _ Try.underlying28 sz3 (by decide) rfl rfl rfl (ix_ok hv5).1 (map_lt (ix_ok hv5).2) rfl),
        st_plain rfl (op_store_e _ _ _ _ _ _ _ _ sz3 rfl rfl rfl (by decide) (map_lt (ix_ok hv5).2) ((map_set (f := Value.int .i64) _ (ix_ok hv5).2).trans (congrArg (List.map _) (Option.some.inj hv6)))),
        trivial⟩ ?_
    refine pt_then ?_
    refine ht_seq ?_
    refine ht_seq ?_
    refine ht_seqR hn (El := [_, _, _, (25, .fl .shr 3 (List.flatten (List.map T_Tok.enc l))), (26, .v (.int .i64 (l.length : Int))), (27, .v (.int .i64 0))]) (init := [0, 1, 2]) (fin := [1, 2, 3, 4, 5]) (sps := [⟨[0], [], [3], [(.slot 25)]⟩, ⟨[3], [], [4], [(.slot 26)]⟩, ⟨[], [], [5], [(.slot 27)]⟩]) (es' := [(_, _), (_, _), (25, .fl .shr 3 (List.flatten (List.map T_Tok.enc l))), (26, .v (.int .i64 (l.length : Int))), (27, .v (.int .i64 0))]) (by kernel_rfl) rfl rfl
      ⟨st_plain rfl (op_move _ _ _ _ rfl rfl),
        st_plain rfl (op_len_fl _ _ _ Try.underlying22 rfl (by decide) (flat_len T_Tok.len _)),
        st_plain rfl (op_move _ _ _ _ rfl rfl),
        trivial⟩ ?_
    refine pt_then ?_
    refine ht_loopS h (fun ((s46, s47, s48) : (List Int) × (List Int) × Int) => [(2, .fl (.own 3) 1 (List.map (Value.int .i64) s46)), (3, .fl (.own 3) 1 (List.map (Value.int .i64) s47)), (25, .fl .shr 3 (List.flatten (List.map T_Tok.enc l))), (26, .v (.int .i64 (l.length : Int))), (27, .v (.int .i64 s48))]) (fun ((s57, s58) : (List Int) × (List Int)) => [(2, .fl (.own 3) 1 (List.map (Value.int .i64) s57)), (3, .fl (.own 3) 1 (List.map (Value.int .i64) s58))]) ?_ ?_
    · rintro ⟨s57, s58⟩ h
      refine pt_then ?_
      refine ht_seq ?_
      refine ht_seqR hn (El := [_, _, (70, .fl (.own 3) 1 (List.map (Value.int .i64) s57)), (71, .fl (.own 3) 1 (List.map (Value.int .i64) s58)), (2, .fl (.own 3) 1 (List.map (Value.int .i64) s57)), (3, .fl (.own 3) 1 (List.map (Value.int .i64) s58)), (4, .v (.int .i64 0))]) (init := [0, 1]) (fin := [4, 5, 6]) (sps := [⟨[], [0], [2], [(.slot 70)]⟩, ⟨[], [1], [3], [(.slot 71)]⟩, ⟨[], [2], [4], [(.slot 2)]⟩, ⟨[], [3], [5], [(.slot 3)]⟩, ⟨[], [], [6], [(.slot 4)]⟩]) (es' := [(2, .fl (.own 3) 1 (List.map (Value.int .i64) s57)), (3, .fl (.own 3) 1 (List.map (Value.int .i64) s58)), (4, .v (.int .i64 0))]) (by kernel_rfl) rfl rfl
        ⟨st_plain rfl (op_move_take _ _ _ _ rfl),
          st_plain rfl (op_move_take _ _ _ _ rfl),
          st_plain rfl (op_assign_take _ _ _ _ rfl),
          st_plain rfl (op_assign_take _ _ _ _ rfl),
          st_plain rfl (op_assign _ _ _ _ rfl rfl),
          trivial⟩ ?_
      refine pt_then ?_
      refine ht_ret ?_
      obtain rfl := Option.some.inj h
      exact pt_ret hio rfl (.tmp _ _ (.tmp _ _ (.tmp _ _ .nil))) rfl rfl
    · rintro u59 hl60 hr61 ⟨s46, s47, s48⟩ rr64 h ho62
      refine ht_seq ?_
      refine ht_seqR hn (El := [_, _, _, _, _, (28, .v (.bool ((decide (s48 < (l.length : Int))))))]) (init := [0, 1, 2, 3, 4]) (fin := [0, 1, 2, 3, 4, 5]) (sps := [⟨[4, 3], [], [5], [(.slot 28)]⟩]) (es' := [(_, _), (_, _), (_, _), (_, _), (_, _), (28, .v (.bool ((decide (s48 < (l.length : Int))))))]) (by kernel_rfl) rfl rfl
        ⟨st_plain rfl (op_bin _ _ _ _ _ rfl rfl rfl),
          trivial⟩ ?_
      refine pt_then ?_
      refine ht_seq ?_
      refine ht_cond _ rfl (fun hb65 => ?_) (fun hb65 => ?_)
      · have h := cond_t hb65 h
        refine ht_skip ?_
        refine pt_then ?_
        refine ht_seq ?_
        refine ht_joinS h (fun ((s67, s68) : (List Int) × (List Int)) => [(2, .fl (.own 3) 1 (List.map (Value.int .i64) s67)), (3, .fl (.own 3) 1 (List.map (Value.int .i64) s68)), (25, .fl .shr 3 (List.flatten (List.map T_Tok.enc l))), (26, .v (.int .i64 (l.length : Int))), (27, .v (.int .i64 s48))]) ?_ ?_
        · rintro ⟨s67, s68⟩ h
          refine pt_then ?_
          obtain ⟨v34, hv34, h⟩ := bind_some h
          refine ht_seqR hn (El := [_, _, _, _, _, (69, .v (.int .i64 v34)), (27, .v (.int .i64 v34))]) (init := [0, 1, 2, 3, 4]) (fin := [0, 1, 2, 3, 6]) (sps := [⟨[4], [], [5], [(.slot 69)]⟩, ⟨[5], [4], [6], [(.slot 27)]⟩]) (es' := [(_, _), (_, _), (_, _), (_, _), (27, .v (.int .i64 v34))]) (by kernel_rfl) rfl rfl
            ⟨st_plain rfl (op_bin _ _ _ _ _ rfl rfl (ibind (f := Value.int .i64) (Option.some.inj hv34))),
              st_plain rfl (LOp.drop [_] (op_move _ _ _ _ rfl rfl)),
              trivial⟩ ?_
          exact pt_next _ (Option.some.inj h).symm rfl
        · intro u69 h hl70 hr71
          refine ht_block ?_
          refine ht_seq ?_
          obtain ⟨v8, hv8, h⟩ := bind_some h
          obtain ⟨v9, hv9, h⟩ := bind_some h
          refine ht_seqR hn (El := [_, _, _, _, _, _, (29, .eref (.slot 25) (v8 * 3)), (30, .agg [.v (.int .u8 v9.Byte), .v (.int .i64 v9.Len), .v (.int .i64 v9.Dist)]), (7, .box 48 [.v (.int .u8 0), .v (.int .i64 0), .v (.int .i64 0)]), (7, .box 48 [.v (.int .u8 v9.Byte), .v (.int .i64 v9.Len), .v (.int .i64 v9.Dist)])]) (init := [0, 1, 2, 3, 4, 5]) (fin := [0, 1, 2, 3, 4, 9]) (sps := [⟨[2, 4], [], [6], [(.slot 29)]⟩, ⟨[6, 2], [], [7], [(.slot 30)]⟩, ⟨[], [], [8], [(.slot 7)]⟩, ⟨[7], [8], [9], [.cell 7 0, .cell 7 1, .cell 7 2]⟩]) (es' := [(_, _), (_, _), (_, _), (_, _), (_, _), (7, .box 48 [.v (.int .u8 v9.Byte), .v (.int .i64 v9.Len), .v (.int .i64 v9.Dist)])]) (by kernel_rfl) rfl rfl
            ⟨st_plain rfl (op_ix _ _ _ _ _ _ _ _ Try.underlying22 sz48 (by decide) rfl rfl rfl (ix_ok hv8).1 (flat_lt T_Tok.len (ix_ok hv8).2) rfl),
              st_plain rfl (op_load_eA _ _ _ _ _ _ _ Try.underlying48 rfl sz48 rfl rfl (flat_get T_Tok.len hv9) rfl (by decide)),
              st_plain rfl (op_alloc _ _ zr48),
              st_plain rfl (op_store _ _ _ _ _ _ _ _ sz48 rfl rfl rfl rfl (Nat.le_of_ble_eq_true rfl) rfl rfl),
              trivial⟩ ?_
          refine pt_then ?_
          refine ht_seq ?_
          refine ht_seq ?_
          refine ht_seqR hn (El := [_, _, _, _, _, _, (31, .ptr 7 1), (32, .v (.int .i64 v9.Len)), (33, .v (.bool (v9.Len == 0)))]) (init := [0, 1, 2, 3, 4, 5]) (fin := [0, 1, 2, 3, 4, 5, 8]) (sps := [⟨[5], [], [6], [(.slot 31)]⟩, ⟨[6, 5], [], [7], [(.slot 32)]⟩, ⟨[7], [], [8], [(.slot 33)]⟩]) (es' := [(_, _), (_, _), (_, _), (_, _), (_, _), (_, _), (33, .v (.bool (v9.Len == 0)))]) (by kernel_rfl) rfl rfl
            ⟨st_plain rfl (op_fieldAddr _ _ _ _ 7 0 _ Try.underlying48 rfl sz3 rfl rfl (by decide)),
              st_plain rfl (op_load _ _ _ _ _ _ Try.underlying3 rfl rfl rfl (Nat.le_of_ble_eq_true rfl) rfl rfl rfl),
              st_plain rfl (op_bin _ _ _ _ _ rfl rfl rfl),
              trivial⟩ ?_
          refine pt_then ?_
          refine ht_cond _ rfl (fun hb72 => ?_) (fun hb72 => ?_)
          · have h := cond_t hb72 h
            refine ht_seq ?_
            obtain ⟨v11, hv11, h⟩ := bind_some h
            obtain ⟨v12, hv12, h⟩ := bind_some h
            obtain ⟨v13, hv13, h⟩ := bind_some h
            obtain ⟨v14, hv14, h⟩ := bind_some h
            obtain ⟨v15, hv15, h⟩ := bind_some h
            refine ht_seqR hn (El := (_ :: _ :: _ :: _ :: _ :: _ :: _ :: (34, .same (.slot 2)) :: (35, .ptr 7 0) :: (36, .v (.int .u8 v9.Byte)) :: (37, .eref (.slot 2) (v11 * 1)) :: (38, .v (.int .i64 v12)) :: (39, .v (.int .i64 v13)) :: (40, .eref (.slot 2) (v14 * 1)) :: (2, .fl (.own 3) 1 (List.map (Value.int .i64) v15)) :: [])) (init := [0, 1, 2, 3, 4, 5, 6]) (fin := [14, 1, 2, 3, 4]) (sps := [⟨[0], [], [7], [(.slot 34)]⟩, ⟨[5], [], [8], [(.slot 35)]⟩, ⟨[8, 5], [], [9], [(.slot 36)]⟩, ⟨[7, 0, 9], [], [10], [(.slot 37)]⟩, ⟨[10, 0], [], [11], [(.slot 38)]⟩, ⟨[11], [], [12], [(.slot 39)]⟩, ⟨[7, 0, 9], [], [13], [(.slot 40)]⟩, ⟨[13, 12], [0], [14], []⟩]) (es' := [(2, .fl (.own 3) 1 (List.map (Value.int .i64) v15)), (_, _), (_, _), (_, _), (_, _)]) (by kernel_rfl) rfl rfl
              ⟨st_plain rfl (op_move _ _ _ _ rfl rfl),
                st_plain rfl (op_fieldAddr _ _ _ _ 7 0 _ Try.underlying48 rfl sz5 rfl rfl (by decide)),
                st_plain rfl (op_load _ _ _ _ _ _ Try.underlying5 rfl rfl rfl (Nat.le_of_ble_eq_true rfl) rfl rfl rfl),
                st_plain rfl (op_ix _ _ _ _ _ _ _ _ Try.underlying28 sz3 (by decide) rfl rfl rfl (ix_ok hv11).1 (map_lt (ix_ok hv11).2) rfl),
                st_plain rfl (op_load_e _ _ _ _ _ _ Try.underlying3 rfl rfl rfl (map_get hv12)),
                st_plain rfl (op_bin _ _ _ _ _ rfl rfl (ibind (f := Value.int .i64) (Option.some.inj hv13))),
                st_plain rfl (op_ix _ _ _ _ _ _ _ _ Try.underlying28 sz3 (by decide) rfl rfl rfl (ix_ok hv14).1 (map_lt (ix_ok hv14).2) rfl),
                st_plain rfl (op_store_e _ _ _ _ _ _ _ _ sz3 rfl rfl rfl (by decide) (map_lt (ix_ok hv14).2) ((map_set (f := Value.int .i64) _ (ix_ok hv14).2).trans (congrArg (List.map _) (Option.some.inj hv15)))),
                trivial⟩ ?_
            refine pt_then ?_
            refine ht_exit ?_
            refine pt_x_then ?_
            refine pt_x_in ?_
            exact hl70 _ (Option.some.inj h).symm
          · have h := cond_f hb72 h
            refine ht_skip ?_
            refine pt_then ?_
            refine ht_seq ?_
            obtain ⟨v16, hv16, h⟩ := bind_some h
            refine ht_seqR hn (El := (_ :: _ :: _ :: _ :: _ :: _ :: _ :: (42, .ptr 7 1) :: (43, .v (.int .i64 v9.Len)) :: (44, .tup [.v (.int .i64 v16.1), .v (.int .i64 v16.2.1), .v (.int .i64 v16.2.2.1), .v (.int .i64 v16.2.2.2)]) :: (41, .tup [.v (.int .i64 v16.1), .v (.int .i64 v16.2.1), .v (.int .i64 v16.2.2.1), .v (.int .i64 v16.2.2.2)]) :: (45, .v (.int .i64 v16.1)) :: (46, .v (.int .i64 v16.2.1)) :: (47, .v (.int .i64 v16.2.2.1)) :: (48, .v (.int .i64 v16.2.2.2)) :: (8, .v (.int .i64 v16.1)) :: (9, .v (.int .i64 v16.2.1)) :: (10, .v (.int .i64 v16.2.2.1)) :: (11, .v (.int .i64 v16.2.2.2)) :: [])) (init := [0, 1, 2, 3, 4, 5, 6]) (fin := [0, 1, 2, 3, 4, 5, 15]) (sps := [⟨[5], [], [7], [(.slot 42)]⟩, ⟨[7, 5], [], [8], [(.slot 43)]⟩, ⟨[8], [], [9], [(.slot 44)]⟩, ⟨[], [9], [10], [(.slot 41)]⟩, ⟨[10], [], [11], [(.slot 45)]⟩, ⟨[10], [], [12], [(.slot 46)]⟩, ⟨[10], [], [13], [(.slot 47)]⟩, ⟨[10], [], [14], [(.slot 48)]⟩, ⟨[11], [], [15], [(.slot 8)]⟩, ⟨[12], [], [16], [(.slot 9)]⟩, ⟨[13], [], [17], [(.slot 10)]⟩, ⟨[14], [], [18], [(.slot 11)]⟩]) (es' := [(_, _), (_, _), (_, _), (_, _), (_, _), (_, _), (8, .v (.int .i64 v16.1))]) (by kernel_rfl) rfl rfl
              ⟨st_plain rfl (op_fieldAddr _ _ _ _ 7 0 _ Try.underlying48 rfl sz3 rfl rfl (by decide)),
                st_plain rfl (op_load _ _ _ _ _ _ Try.underlying3 rfl rfl rfl (Nat.le_of_ble_eq_true rfl) rfl rfl rfl),
                st_plain rfl (op_call _ _ 9 _ _ rfl Try.call9 rfl (ok_sym_Len v9.Len _ hv16) rfl rfl),
                st_plain rfl (op_move_take _ _ _ _ rfl),
                st_plain rfl (op_extract _ _ _ _ _ rfl rfl (Nat.le_of_ble_eq_true rfl) rfl rfl),
                st_plain rfl (op_extract _ _ _ _ _ rfl rfl (Nat.le_of_ble_eq_true rfl) rfl rfl),
                st_plain rfl (op_extract _ _ _ _ _ rfl rfl (Nat.le_of_ble_eq_true rfl) rfl rfl),
                st_plain rfl (op_extract _ _ _ _ _ rfl rfl (Nat.le_of_ble_eq_true rfl) rfl rfl),
                st_plain rfl (op_assign _ _ _ _ rfl rfl),
                st_plain rfl (op_assign _ _ _ _ rfl rfl),
                st_plain rfl (op_assign _ _ _ _ rfl rfl),
                st_plain rfl (op_assign _ _ _ _ rfl rfl),
                trivial⟩ ?_
            refine pt_then ?_
            refine ht_seq ?_
            obtain ⟨v17, hv17, h⟩ := bind_some h
            refine ht_seqR hn (El := (_ :: _ :: _ :: _ :: _ :: _ :: _ :: (50, .ptr 7 2) :: (51, .v (.int .i64 v9.Dist)) :: (52, .tup [.v (.int .i64 v17.1), .v (.int .i64 v17.2.1), .v (.int .i64 v17.2.2.1), .v (.int .i64 v17.2.2.2)]) :: (49, .tup [.v (.int .i64 v17.1), .v (.int .i64 v17.2.1), .v (.int .i64 v17.2.2.1), .v (.int .i64 v17.2.2.2)]) :: (53, .v (.int .i64 v17.1)) :: (54, .v (.int .i64 v17.2.1)) :: (55, .v (.int .i64 v17.2.2.1)) :: (56, .v (.int .i64 v17.2.2.2)) :: (12, .v (.int .i64 v17.1)) :: (13, .v (.int .i64 v17.2.1)) :: (14, .v (.int .i64 v17.2.2.1)) :: (15, .v (.int .i64 v17.2.2.2)) :: [])) (init := [0, 1, 2, 3, 4, 5, 6]) (fin := [0, 1, 2, 3, 4, 6, 15]) (sps := [⟨[5], [], [7], [(.slot 50)]⟩, ⟨[7, 5], [], [8], [(.slot 51)]⟩, ⟨[8], [], [9], [(.slot 52)]⟩, ⟨[], [9], [10], [(.slot 49)]⟩, ⟨[10], [], [11], [(.slot 53)]⟩, ⟨[10], [], [12], [(.slot 54)]⟩, ⟨[10], [], [13], [(.slot 55)]⟩, ⟨[10], [], [14], [(.slot 56)]⟩, ⟨[11], [], [15], [(.slot 12)]⟩, ⟨[12], [], [16], [(.slot 13)]⟩, ⟨[13], [], [17], [(.slot 14)]⟩, ⟨[14], [], [18], [(.slot 15)]⟩]) (es' := [(_, _), (_, _), (_, _), (_, _), (_, _), (_, _), (12, .v (.int .i64 v17.1))]) (by kernel_rfl) rfl rfl
              ⟨st_plain rfl (op_fieldAddr _ _ _ _ 7 0 _ Try.underlying48 rfl sz3 rfl rfl (by decide)),
                st_plain rfl (op_load _ _ _ _ _ _ Try.underlying3 rfl rfl rfl (Nat.le_of_ble_eq_true rfl) rfl rfl rfl),
                st_plain rfl (op_call _ _ 11 _ _ rfl Try.call11 rfl (ok_sym_Dist v9.Dist _ hv17) rfl rfl),
                st_plain rfl (op_move_take _ _ _ _ rfl),
                st_plain rfl (op_extract _ _ _ _ _ rfl rfl (Nat.le_of_ble_eq_true rfl) rfl rfl),
                st_plain rfl (op_extract _ _ _ _ _ rfl rfl (Nat.le_of_ble_eq_true rfl) rfl rfl),
                st_plain rfl (op_extract _ _ _ _ _ rfl rfl (Nat.le_of_ble_eq_true rfl) rfl rfl),
                st_plain rfl (op_extract _ _ _ _ _ rfl rfl (Nat.le_of_ble_eq_true rfl) rfl rfl),
                st_plain rfl (op_assign _ _ _ _ rfl rfl),
                st_plain rfl (op_assign _ _ _ _ rfl rfl),
                st_plain rfl (op_assign _ _ _ _ rfl rfl),
                st_plain rfl (op_assign _ _ _ _ rfl rfl),
                trivial⟩ ?_
            refine pt_then ?_
            refine ht_seq ?_
            obtain ⟨v18, hv18, h⟩ := bind_some h
            obtain ⟨v19, hv19, h⟩ := bind_some h
            obtain ⟨v20, hv20, h⟩ := bind_some h
            obtain ⟨v21, hv21, h⟩ := bind_some h
            obtain ⟨v22, hv22, h⟩ := bind_some h
            refine ht_seqR hn (El := [_, _, _, _, _, _, _, (57, .same (.slot 2)), (58, .v (.int .i64 v16.1)), (59, .eref (.slot 2) (v18 * 1)), (60, .v (.int .i64 v19)), (61, .v (.int .i64 v20)), (62, .eref (.slot 2) (v21 * 1)), (2, .fl (.own 3) 1 (List.map (Value.int .i64) v22))]) (init := [0, 1, 2, 3, 4, 5, 6]) (fin := [13, 1, 2, 3, 4, 6]) (sps := [⟨[0], [], [7], [(.slot 57)]⟩, ⟨[5], [], [8], [(.slot 58)]⟩, ⟨[7, 0, 8], [], [9], [(.slot 59)]⟩, ⟨[9, 0], [], [10], [(.slot 60)]⟩, ⟨[10], [], [11], [(.slot 61)]⟩, ⟨[7, 0, 8], [], [12], [(.slot 62)]⟩, ⟨[12, 11], [0], [13], []⟩]) (es' := [(2, .fl (.own 3) 1 (List.map (Value.int .i64) v22)), (_, _), (_, _), (_, _), (_, _), (_, _)]) (by kernel_rfl) rfl rfl
              ⟨st_plain rfl (op_move _ _ _ _ rfl rfl),
                st_plain rfl (op_move _ _ _ _ rfl rfl),
                st_plain rfl (op_ix _ _ _ _ _ _ _ _ Try.underlying28 sz3 (by decide) rfl rfl rfl (ix_ok hv18).1 (map_lt (ix_ok hv18).2) rfl),
                st_plain rfl (op_load_e _ _ _ _ _ _ Try.underlying3 rfl rfl rfl (map_get hv19)),
                st_plain rfl (op_bin _ _ _ _ _ rfl rfl (ibind (f := Value.int .i64) (Option.some.inj hv20))),
                st_plain rfl (op_ix _ _ _ _ _ _ _ _ Try.underlying28 sz3 (by decide) rfl rfl rfl (ix_ok hv21).1 (map_lt (ix_ok hv21).2) rfl),
                st_plain rfl (op_store_e _ _ _ _ _ _ _ _ sz3 rfl rfl rfl (by decide) (map_lt (ix_ok hv21).2) ((map_set (f := Value.int .i64) _ (ix_ok hv21).2).trans (congrArg (List.map _) (Option.some.inj hv22)))),
                trivial⟩ ?_
            refine pt_then ?_
            obtain ⟨v23, hv23, h⟩ := bind_some h
            obtain ⟨v24, hv24, h⟩ := bind_some h
            obtain ⟨v25, hv25, h⟩ := bind_some h
            obtain ⟨v26, hv26, h⟩ := bind_some h
            obtain ⟨v27, hv27, h⟩ := bind_some h
            refine ht_seqR hn (El := [_, _, _, _, _, _, (63, .same (.slot 3)), (64, .v (.int .i64 v17.1)), (65, .eref (.slot 3) (v23 * 1)), (66, .v (.int .i64 v24)), (67, .v (.int .i64 v25)), (68, .eref (.slot 3) (v26 * 1)), (3, .fl (.own 3) 1 (List.map (Value.int .i64) v27))]) (init := [0, 1, 2, 3, 4, 5]) (fin := [0, 12, 2, 3, 4]) (sps := [⟨[1], [], [6], [(.slot 63)]⟩, ⟨[5], [], [7], [(.slot 64)]⟩, ⟨[6, 1, 7], [], [8], [(.slot 65)]⟩, ⟨[8, 1], [], [9], [(.slot 66)]⟩, ⟨[9], [], [10], [(.slot 67)]⟩, ⟨[6, 1, 7], [], [11], [(.slot 68)]⟩, ⟨[11, 10], [1], [12], []⟩]) (es' := [(_, _), (3, .fl (.own 3) 1 (List.map (Value.int .i64) v27)), (_, _), (_, _), (_, _)]) (by kernel_rfl) rfl rfl
              ⟨st_plain rfl (op_move _ _ _ _ rfl rfl),
                st_plain rfl (op_move _ _ _ _ rfl rfl),
                st_plain rfl (op_ix _ _ _ _ _ _ _ _ Try.underlying28 sz3 (by decide) rfl rfl rfl (ix_ok hv23).1 (map_lt (ix_ok hv23).2) rfl),
                st_plain rfl (op_load_e _ _ _ _ _ _ Try.underlying3 rfl rfl rfl (map_get hv24)),
                st_plain rfl (op_bin _ _ _ _ _ rfl rfl (ibind (f := Value.int .i64) (Option.some.inj hv25))),
                st_plain rfl (op_ix _ _ _ _ _ _ _ _ Try.underlying28 sz3 (by decide) rfl rfl rfl (ix_ok hv26).1 (map_lt (ix_ok hv26).2) rfl),
                st_plain rfl (op_store_e _ _ _ _ _ _ _ _ sz3 rfl rfl rfl (by decide) (map_lt (ix_ok hv26).2) ((map_set (f := Value.int .i64) _ (ix_ok hv26).2).trans (congrArg (List.map _) (Option.some.inj hv27)))),
                trivial⟩ ?_
            refine pt_inb ?_
            exact hl70 _ (Option.some.inj h).symm
      · have h := cond_f hb65 h
        refine ht_exit ?_
        refine pt_x_then ?_
        refine pt_x_then ?_
        refine pt_x_in ?_
        refine pt_pick [0, 1] (by kernel_rfl) (es' := [(_, _), (_, _)]) rfl ?_
        exact hl60 _ (ho62 _ (Option.some.inj h).symm).symm

end Go.Proofs.Ytepjhmgmejpkpaa
