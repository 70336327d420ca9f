/-
  The model's runs are what is told in Lean.
-/
import Derived.Test.YtenfngliiibiiaaProg
import Derived.KernelRfl
import Derived.Test.YtenfngliiibiiaaOk1
set_option linter.unusedVariables false
set_option linter.unusedSimpArgs false
namespace Go.Proofs.Ytenfngliiibiiaa
open Go.Abs Go.Abs.Sh

set_option maxHeartbeats 1000000 in
theorem ok_wherryref18_Frame (f : T_Frame) (r : Bool) (h : Sh.wherryref18_Frame f = some r) : FnOK Try.prog 15 [.agg [.v (.int .i64 f.Kind), .v (.int .i64 f.Number), .v (.int .i64 f.Offset), .v (.int .i64 f.Seq), .fl .shr 1 (List.map (Value.int .u8) f.Data)]] (.v (.bool r)) := by
  unfold Sh.wherryref18_Frame at h
  refine fn_ok Try.func15 rfl (Nat.le_of_ble_eq_true rfl) rfl rfl fun g0 hn hio => ?_
  refine ht_seq ?_
  refine ht_seqR hn (El := [_, (1, .box 24 [.v (.int .i64 f.Kind), .v (.int .i64 f.Number), .v (.int .i64 f.Offset), .v (.int .i64 f.Seq), .fl .shr 1 (List.map (Value.int .u8) f.Data)]), (2, .v (.bool false))]) (init := [0]) (fin := [1]) (sps := [⟨[0], [], [1], [(.slot 1)]⟩, ⟨[], [], [2], [(.slot 2)]⟩]) (es' := [(1, .box 24 [.v (.int .i64 f.Kind), .v (.int .i64 f.Number), .v (.int .i64 f.Offset), .v (.int .i64 f.Seq), .fl .shr 1 (List.map (Value.int .u8) f.Data)])]) (by kernel_rfl) rfl rfl
    ⟨st_plain rfl (op_box _ _ _ _ rfl rfl rfl),
      st_plain rfl (op_assign _ _ _ _ rfl rfl),
      trivial⟩ ?_
  refine pt_then ?_
  refine ht_seq ?_
  refine ht_seqR hn (El := [_, (5, .ptr 1 0), (6, .v (.int .i64 f.Kind)), (7, .ptr 1 1), (8, .v (.int .i64 f.Number)), (9, .agg [.v (.int .i64 f.Kind), .v (.int .i64 f.Number), .v (.int .i64 0), .v (.int .i64 0), .v (.slice none 0 0)]), (3, .box 24 [.v (.int .i64 0), .v (.int .i64 0), .v (.int .i64 0), .v (.int .i64 0), .v (.slice none 0 0)]), (3, .box 24 [.v (.int .i64 f.Kind), .v (.int .i64 f.Number), .v (.int .i64 0), .v (.int .i64 0), .v (.slice none 0 0)])]) (init := [0]) (fin := [0, 7]) (sps := [⟨[0], [], [1], [(.slot 5)]⟩, ⟨[1, 0], [], [2], [(.slot 6)]⟩, ⟨[0], [], [3], [(.slot 7)]⟩, ⟨[3, 0], [], [4], [(.slot 8)]⟩, ⟨[2, 4], [], [5], [(.slot 9)]⟩, ⟨[], [], [6], [(.slot 3)]⟩, ⟨[5], [6], [7], [.cell 3 0, .cell 3 1, .cell 3 2, .cell 3 3, .cell 3 4]⟩]) (es' := [(_, _), (3, .box 24 [.v (.int .i64 f.Kind), .v (.int .i64 f.Number), .v (.int .i64 0), .v (.int .i64 0), .v (.slice none 0 0)])]) (by kernel_rfl) rfl rfl
    ⟨st_plain rfl (op_fieldAddr _ _ _ _ 1 0 _ Try.underlying24 rfl sz3 rfl rfl (by decide)),
      st_plain rfl (op_load _ _ _ _ _ _ Try.underlying3 rfl rfl rfl (Nat.le_of_ble_eq_true rfl) rfl rfl rfl),
      st_plain rfl (op_fieldAddr _ _ _ _ 1 0 _ Try.underlying24 rfl sz3 rfl rfl (by decide)),
      st_plain rfl (op_load _ _ _ _ _ _ Try.underlying3 rfl rfl rfl (Nat.le_of_ble_eq_true rfl) rfl rfl rfl),
      st_plain rfl (op_build _ _ _ _ [1, 1, 1, 1, 1] _ _ Try.underlying24 zr24 (fs24 _ Try.underlying24) (.copy _ (.copy _ Src.nil)) rfl rfl rfl),
      st_plain rfl (op_alloc _ _ zr24),
      st_plain rfl (op_store _ _ _ _ _ _ _ _ sz24 rfl rfl rfl rfl (Nat.le_of_ble_eq_true rfl) rfl rfl),
      trivial⟩ ?_
  refine pt_then ?_
  refine ht_seq ?_
  obtain ⟨v1, hv1, h⟩ := bind_some h
  refine ht_seqR hn (El := [_, _, (10, .ptr 1 1), (11, .v (.int .i64 f.Number)), (12, .v (.bool v1)), (4, .v (.bool v1))]) (init := [0, 1]) (fin := [0, 1, 5]) (sps := [⟨[0], [], [2], [(.slot 10)]⟩, ⟨[2, 0], [], [3], [(.slot 11)]⟩, ⟨[3], [], [4], [(.slot 12)]⟩, ⟨[4], [], [5], [(.slot 4)]⟩]) (es' := [(_, _), (_, _), (4, .v (.bool v1))]) (by kernel_rfl) rfl rfl
    ⟨st_plain rfl (op_fieldAddr _ _ _ _ 1 0 _ Try.underlying24 rfl sz3 rfl rfl (by decide)),
      st_plain rfl (op_load _ _ _ _ _ _ Try.underlying3 rfl rfl rfl (Nat.le_of_ble_eq_true rfl) rfl rfl rfl),
      st_plain rfl (op_call _ _ 25 _ _ rfl Try.call25 rfl (ok_wherryref18_in f.Number 1 65535 _ hv1) rfl rfl),
      st_plain rfl (op_assign _ _ _ _ rfl rfl),
      trivial⟩ ?_
  refine pt_then ?_
  refine ht_seq ?_
  refine ht_joinS h (fun ((s58, s59, s60, s61) : Int × Int × (List Int) × Bool) => [(1, .box 24 [.v (.int .i64 f.Kind), .v (.int .i64 f.Number), .v (.int .i64 f.Offset), .v (.int .i64 f.Seq), .fl .shr 1 (List.map (Value.int .u8) f.Data)]), (3, .box 24 [.v (.int .i64 f.Kind), .v (.int .i64 f.Number), .v (.int .i64 s58), .v (.int .i64 s59), .fl .shr 1 (List.map (Value.int .u8) s60)]), (4, .v (.bool s61))]) ?_ ?_
  · rintro ⟨s58, s59, s60, s61⟩ h
    refine pt_then ?_
    refine ht_seq ?_
    refine ht_joinS h (fun (s117 : Bool) => [(2, .v (.bool s117))]) ?_ ?_
    · rintro s117 h
      refine pt_then ?_
      refine ht_ret ?_
      obtain rfl := Option.some.inj h
      exact pt_ret hio rfl (.tmp _ _ .nil) rfl rfl
    · intro u118 h hl119 hr120
      refine cond_some h (fun hg16_1 h => ?_) (fun hg16_1 h => ?_)
      · obtain ⟨v116, hv116, h⟩ := bind_some h
        refine ht_seqR hn (El := [_, _, _, (68, .v (.bool s61)), (69, .v (.bool true)), (70, .agg [.v (.int .i64 f.Kind), .v (.int .i64 f.Number), .v (.int .i64 s58), .v (.int .i64 s59), .fl .shr 1 (List.map (Value.int .u8) s60)]), (71, .agg [.v (.int .i64 f.Kind), .v (.int .i64 f.Number), .v (.int .i64 f.Offset), .v (.int .i64 f.Seq), .fl .shr 1 (List.map (Value.int .u8) f.Data)]), (72, .v (.bool v116)), (73, .v (.bool v116)), (2, .v (.bool v116))]) (init := [0, 1, 2]) (fin := [9]) (sps := [⟨[2], [], [3], [(.slot 68)]⟩, ⟨[3], [], [4], [(.slot 69)]⟩, ⟨[4, 1], [], [5], [(.slot 70)]⟩, ⟨[4, 0], [], [6], [(.slot 71)]⟩, ⟨[4, 5, 6], [], [7], [(.slot 72)]⟩, ⟨[4, 7], [], [8], [(.slot 73)]⟩, ⟨[8], [], [9], [(.slot 2)]⟩]) (es' := [(2, .v (.bool v116))]) (by kernel_rfl) rfl rfl
          ⟨st_plain rfl (op_move _ _ _ _ rfl rfl),
            st_plain rfl (op_move _ _ _ _ (congrArg (fun b => AV.v (Value.bool b)) hg16_1) rfl),
            st_run 1 69 true rfl rfl rfl (List.Mem.head _) (op_loadA _ _ _ _ _ _ _ Try.underlying24 rfl sz24 rfl rfl (Nat.le_of_ble_eq_true rfl) rfl rfl),
            st_run 1 69 true rfl rfl rfl (List.Mem.head _) (op_loadA _ _ _ _ _ _ _ Try.underlying24 rfl sz24 rfl rfl (Nat.le_of_ble_eq_true rfl) rfl rfl),
            st_run 1 69 true rfl rfl rfl (List.Mem.head _) (op_call _ _ 19 _ _ rfl Try.call19 rfl (ok_wherrykeep_Frame (T_Frame.mk f.Kind f.Number s58 s59 s60) f _ hv116) rfl rfl),
            st_plain rfl (op_pick _ _ true _ rfl rfl),
            st_plain rfl (op_assign _ _ _ _ rfl rfl),
            trivial⟩ ?_
        exact hl119 _ (Option.some.inj h).symm
      · refine ht_seqR hn (El := [_, _, _, (68, .v (.bool s61)), (69, .v (.bool false)), (70, .v undef), (71, .v undef), (72, .v undef), (73, .v (.bool false)), (2, .v (.bool false))]) (init := [0, 1, 2]) (fin := [9]) (sps := [⟨[2], [], [3], [(.slot 68)]⟩, ⟨[3], [], [4], [(.slot 69)]⟩, ⟨[4], [], [5], [(.slot 70)]⟩, ⟨[4], [], [6], [(.slot 71)]⟩, ⟨[4], [], [7], [(.slot 72)]⟩, ⟨[4], [], [8], [(.slot 73)]⟩, ⟨[8], [], [9], [(.slot 2)]⟩]) (es' := [(2, .v (.bool false))]) (by kernel_rfl) rfl rfl
          ⟨st_plain rfl (op_move _ _ _ _ rfl rfl),
            st_plain rfl (op_move _ _ _ _ (congrArg (fun b => AV.v (Value.bool b)) hg16_1) rfl),
            st_skip 1 69 _ true rfl rfl rfl rfl (List.Mem.head _),
            st_skip 1 69 _ true rfl rfl rfl rfl (List.Mem.head _),
            st_skip 1 69 _ true rfl rfl rfl rfl (List.Mem.head _),
            st_plain rfl (op_pick _ _ false _ rfl rfl),
            st_plain rfl (op_assign _ _ _ _ rfl rfl),
            trivial⟩ ?_
        exact hl119 _ (Option.some.inj h).symm
  · intro u62 h hl63 hr64
    refine ht_seq ?_
    refine ht_seqR hn (El := [_, _, _, (13, .ptr 1 0), (14, .v (.int .i64 f.Kind))]) (init := [0, 1, 2]) (fin := [0, 1, 2, 4]) (sps := [⟨[0], [], [3], [(.slot 13)]⟩, ⟨[3, 0], [], [4], [(.slot 14)]⟩]) (es' := [(_, _), (_, _), (_, _), (14, .v (.int .i64 f.Kind))]) (by kernel_rfl) rfl rfl
      ⟨st_plain rfl (op_fieldAddr _ _ _ _ 1 0 _ Try.underlying24 rfl sz3 rfl rfl (by decide)),
        st_plain rfl (op_load _ _ _ _ _ _ Try.underlying3 rfl rfl rfl (Nat.le_of_ble_eq_true rfl) rfl rfl rfl),
        trivial⟩ ?_
    refine pt_then ?_
    refine ht_joinS h (fun ((s87, s88, s89, s90) : Int × Int × (List Int) × Bool) => [(1, .box 24 [.v (.int .i64 f.Kind), .v (.int .i64 f.Number), .v (.int .i64 f.Offset), .v (.int .i64 f.Seq), .fl .shr 1 (List.map (Value.int .u8) f.Data)]), (3, .box 24 [.v (.int .i64 f.Kind), .v (.int .i64 f.Number), .v (.int .i64 s87), .v (.int .i64 s88), .fl .shr 1 (List.map (Value.int .u8) s89)]), (4, .v (.bool s90))]) ?_ ?_
    · rintro ⟨s87, s88, s89, s90⟩ h
      exact hl63 _ (Option.some.inj h).symm
    · intro u91 h hl92 hr93
      refine ht_block ?_
      refine ht_seq ?_
      refine ht_joinS h (fun (s95 : Bool) => [(1, .box 24 [.v (.int .i64 f.Kind), .v (.int .i64 f.Number), .v (.int .i64 f.Offset), .v (.int .i64 f.Seq), .fl .shr 1 (List.map (Value.int .u8) f.Data)]), (3, .box 24 [.v (.int .i64 f.Kind), .v (.int .i64 f.Number), .v (.int .i64 0), .v (.int .i64 0), .v (.slice none 0 0)]), (4, .v (.bool v1)), (14, .v (.int .i64 f.Kind)), (15, .v (.bool s95))]) ?_ ?_
      · rintro s95 h
        refine pt_then ?_
        refine ht_cond _ rfl (fun hb100 => ?_) (fun hb100 => ?_)
        · have h := cond_t hb100 h
          refine ht_seq ?_
          refine ht_seqR hn (El := [_, _, _, _, _, (18, .ptr 1 2), (19, .v (.int .i64 f.Offset)), (20, .ptr 3 2), (3, .box 24 [.v (.int .i64 f.Kind), .v (.int .i64 f.Number), .v (.int .i64 f.Offset), .v (.int .i64 0), .v (.slice none 0 0)])]) (init := [0, 1, 2, 3, 4]) (fin := [0, 8, 2]) (sps := [⟨[0], [], [5], [(.slot 18)]⟩, ⟨[5, 0], [], [6], [(.slot 19)]⟩, ⟨[1], [], [7], [(.slot 20)]⟩, ⟨[7, 6], [1], [8], [.cell 3 2]⟩]) (es' := [(_, _), (3, .box 24 [.v (.int .i64 f.Kind), .v (.int .i64 f.Number), .v (.int .i64 f.Offset), .v (.int .i64 0), .v (.slice none 0 0)]), (_, _)]) (by kernel_rfl) rfl rfl
            ⟨st_plain rfl (op_fieldAddr _ _ _ _ 1 0 _ Try.underlying24 rfl sz3 rfl rfl (by decide)),
              st_plain rfl (op_load _ _ _ _ _ _ Try.underlying3 rfl rfl rfl (Nat.le_of_ble_eq_true rfl) rfl rfl rfl),
              st_plain rfl (op_fieldAddr _ _ _ _ 3 0 _ Try.underlying24 rfl sz3 rfl rfl (by decide)),
              st_plain rfl (op_store _ _ _ _ _ _ _ _ sz3 rfl rfl rfl rfl (Nat.le_of_ble_eq_true rfl) rfl rfl),
              trivial⟩ ?_
          refine pt_then ?_
          refine ht_joinS h (fun (s101 : Bool) => [(1, .box 24 [.v (.int .i64 f.Kind), .v (.int .i64 f.Number), .v (.int .i64 f.Offset), .v (.int .i64 f.Seq), .fl .shr 1 (List.map (Value.int .u8) f.Data)]), (3, .box 24 [.v (.int .i64 f.Kind), .v (.int .i64 f.Number), .v (.int .i64 f.Offset), .v (.int .i64 0), .v (.slice none 0 0)]), (4, .v (.bool s101))]) ?_ ?_
          · rintro s101 h
            refine pt_inb ?_
            refine pt_sub (fs := [(1, .box 24 [.v (.int .i64 f.Kind), .v (.int .i64 f.Number), .v (.int .i64 f.Offset), .v (.int .i64 f.Seq), .fl .shr 1 (List.map (Value.int .u8) f.Data)]), (3, .box 24 [.v (.int .i64 f.Kind), .v (.int .i64 f.Number), .v (.int .i64 f.Offset), .v (.int .i64 0), .fl .shr 1 (List.map (Value.int .u8) [])]), (4, .v (.bool s101))]) (.same _ (.box _ _ (subs_cons (sub_refl _) (subs_cons (sub_refl _) (subs_cons (sub_refl _) (subs_cons (sub_refl _) (subs_cons (sub_nil_shr 1) (subs_nil)))))) rfl (.same _ .nil))) ?_
            exact hl92 _ (Option.some.inj h).symm
          · intro u102 h hl103 hr104
            refine cond_some h (fun hg8_1 h => ?_) (fun hg8_1 h => ?_)
            · obtain ⟨v9, hv9, h⟩ := bind_some h
              refine ht_seqR hn (El := [_, _, _, (21, .v (.bool v1)), (22, .v (.bool true)), (23, .ptr 1 2), (24, .v (.int .i64 f.Offset)), (25, .v (.bool v9)), (26, .v (.bool v9)), (4, .v (.bool v9))]) (init := [0, 1, 2]) (fin := [0, 1, 9]) (sps := [⟨[2], [], [3], [(.slot 21)]⟩, ⟨[3], [], [4], [(.slot 22)]⟩, ⟨[4, 0], [], [5], [(.slot 23)]⟩, ⟨[4, 5, 0], [], [6], [(.slot 24)]⟩, ⟨[4, 6], [], [7], [(.slot 25)]⟩, ⟨[4, 7], [], [8], [(.slot 26)]⟩, ⟨[8], [2], [9], [(.slot 4)]⟩]) (es' := [(_, _), (_, _), (4, .v (.bool v9))]) (by kernel_rfl) rfl rfl
                ⟨st_plain rfl (op_move _ _ _ _ rfl rfl),
                  st_plain rfl (op_move _ _ _ _ (congrArg (fun b => AV.v (Value.bool b)) hg8_1) rfl),
                  st_run 1 22 true rfl rfl rfl (List.Mem.head _) (op_fieldAddr _ _ _ _ 1 0 _ Try.underlying24 rfl sz3 rfl rfl (by decide)),
                  st_run 1 22 true rfl rfl rfl (List.Mem.head _) (op_load _ _ _ _ _ _ Try.underlying3 rfl rfl rfl (Nat.le_of_ble_eq_true rfl) rfl rfl rfl),
                  st_run 1 22 true rfl rfl rfl (List.Mem.head _) (op_call _ _ 25 _ _ rfl Try.call25 rfl (ok_wherryref18_in f.Offset 0 5000 _ hv9) rfl rfl),
                  st_plain rfl (op_pick _ _ true _ rfl rfl),
                  st_plain rfl (LOp.drop [_] (op_assign _ _ _ _ rfl rfl)),
                  trivial⟩ ?_
              exact hl103 _ (Option.some.inj h).symm
            · refine ht_seqR hn (El := [_, _, _, (21, .v (.bool v1)), (22, .v (.bool false)), (23, .v undef), (24, .v undef), (25, .v undef), (26, .v (.bool false)), (4, .v (.bool false))]) (init := [0, 1, 2]) (fin := [0, 1, 9]) (sps := [⟨[2], [], [3], [(.slot 21)]⟩, ⟨[3], [], [4], [(.slot 22)]⟩, ⟨[4], [], [5], [(.slot 23)]⟩, ⟨[4], [], [6], [(.slot 24)]⟩, ⟨[4], [], [7], [(.slot 25)]⟩, ⟨[4], [], [8], [(.slot 26)]⟩, ⟨[8], [2], [9], [(.slot 4)]⟩]) (es' := [(_, _), (_, _), (4, .v (.bool false))]) (by kernel_rfl) rfl rfl
                ⟨st_plain rfl (op_move _ _ _ _ rfl rfl),
                  st_plain rfl (op_move _ _ _ _ (congrArg (fun b => AV.v (Value.bool b)) hg8_1) rfl),
                  st_skip 1 22 _ true rfl rfl rfl rfl (List.Mem.head _),
                  st_skip 1 22 _ true rfl rfl rfl rfl (List.Mem.head _),
                  st_skip 1 22 _ true rfl rfl rfl rfl (List.Mem.head _),
                  st_plain rfl (op_pick _ _ false _ rfl rfl),
                  st_plain rfl (LOp.drop [_] (op_assign _ _ _ _ rfl rfl)),
                  trivial⟩ ?_
              exact hl103 _ (Option.some.inj h).symm
        · have h := cond_f hb100 h
          refine ht_seq ?_
          refine ht_seqR hn (El := [_, _, _, _, _, (28, .v (.bool (f.Kind == 3))), (27, .v (.bool (f.Kind == 3)))]) (init := [0, 1, 2, 3, 4]) (fin := [0, 1, 2, 3, 6]) (sps := [⟨[3], [], [5], [(.slot 28)]⟩, ⟨[5], [], [6], [(.slot 27)]⟩]) (es' := [(_, _), (_, _), (_, _), (_, _), (27, .v (.bool (f.Kind == 3)))]) (by kernel_rfl) rfl rfl
            ⟨st_plain rfl (op_bin _ _ _ _ _ rfl rfl rfl),
              st_plain rfl (op_assign _ _ _ _ rfl rfl),
              trivial⟩ ?_
          refine pt_then ?_
          refine ht_cond _ rfl (fun hb105 => ?_) (fun hb105 => ?_)
          · have h := cond_t hb105 h
            refine ht_seq ?_
            refine ht_anyR (by kernel_rfl) hn (El := (_ :: _ :: _ :: _ :: _ :: (29, .ptr 1 2) :: (30, .v (.int .i64 f.Offset)) :: (31, .ptr 1 3) :: (32, .v (.int .i64 f.Seq)) :: (33, .ptr 1 4) :: (34, .fl .shr 1 (List.map (Value.int .u8) f.Data)) :: (35, .ptr 3 2) :: (3, .box 24 [.v (.int .i64 f.Kind), .v (.int .i64 f.Number), .v (.int .i64 f.Offset), .v (.int .i64 0), .v (.slice none 0 0)]) :: (36, .ptr 3 3) :: (3, .box 24 [.v (.int .i64 f.Kind), .v (.int .i64 f.Number), .v (.int .i64 f.Offset), .v (.int .i64 f.Seq), .v (.slice none 0 0)]) :: (37, .ptr 3 4) :: (3, .box 24 [.v (.int .i64 f.Kind), .v (.int .i64 f.Number), .v (.int .i64 f.Offset), .v (.int .i64 f.Seq), .fl .shr 1 (List.map (Value.int .u8) f.Data)]) :: [])) (init := [0, 1, 2, 3, 4]) (fin := [0, 16, 2]) (sps := [⟨[0], [], [5], [(.slot 29)]⟩, ⟨[5, 0], [], [6], [(.slot 30)]⟩, ⟨[0], [], [7], [(.slot 31)]⟩, ⟨[7, 0], [], [8], [(.slot 32)]⟩, ⟨[0], [], [9], [(.slot 33)]⟩, ⟨[9, 0], [], [10], [(.slot 34)]⟩, ⟨[1], [], [11], [(.slot 35)]⟩, ⟨[11, 6], [1], [12], [.cell 3 2]⟩, ⟨[12], [], [13], [(.slot 36)]⟩, ⟨[13, 8], [12], [14], [.cell 3 3]⟩, ⟨[14], [], [15], [(.slot 37)]⟩, ⟨[15, 10], [14], [16], [.cell 3 4]⟩]) (es' := [(_, _), (3, .box 24 [.v (.int .i64 f.Kind), .v (.int .i64 f.Number), .v (.int .i64 f.Offset), .v (.int .i64 f.Seq), .fl .shr 1 (List.map (Value.int .u8) f.Data)]), (_, _)]) (by kernel_rfl) rfl rfl
              ⟨st_plain rfl (op_fieldAddr _ _ _ _ 1 0 _ Try.underlying24 rfl sz3 rfl rfl (by decide)),
                st_plain rfl (op_load _ _ _ _ _ _ Try.underlying3 rfl rfl rfl (Nat.le_of_ble_eq_true rfl) rfl rfl rfl),
                st_plain rfl (op_fieldAddr _ _ _ _ 1 0 _ Try.underlying24 rfl sz3 rfl rfl (by decide)),
                st_plain rfl (op_load _ _ _ _ _ _ Try.underlying3 rfl rfl rfl (Nat.le_of_ble_eq_true rfl) rfl rfl rfl),
                st_plain rfl (op_fieldAddr _ _ _ _ 1 0 _ Try.underlying24 rfl sz22 rfl rfl (by decide)),
                st_plain rfl (op_load _ _ _ _ _ _ Try.underlying22 rfl rfl rfl (Nat.le_of_ble_eq_true rfl) rfl rfl rfl),
                st_plain rfl (op_fieldAddr _ _ _ _ 3 0 _ Try.underlying24 rfl sz3 rfl rfl (by decide)),
                st_plain rfl (op_store _ _ _ _ _ _ _ _ sz3 rfl rfl rfl rfl (Nat.le_of_ble_eq_true rfl) rfl rfl),
                st_plain rfl (op_fieldAddr _ _ _ _ 3 0 _ Try.underlying24 rfl sz3 rfl rfl (by decide)),
                st_plain rfl (op_store _ _ _ _ _ _ _ _ sz3 rfl rfl rfl rfl (Nat.le_of_ble_eq_true rfl) rfl rfl),
                st_plain rfl (op_fieldAddr _ _ _ _ 3 0 _ Try.underlying24 rfl sz22 rfl rfl (by decide)),
                st_plain rfl (op_store _ _ _ _ _ _ _ _ sz22 rfl rfl rfl rfl (Nat.le_of_ble_eq_true rfl) rfl rfl),
                trivial⟩ ?_
            refine pt_then ?_
            refine ht_joinS h (fun (s106 : Bool) => [(1, .box 24 [.v (.int .i64 f.Kind), .v (.int .i64 f.Number), .v (.int .i64 f.Offset), .v (.int .i64 f.Seq), .fl .shr 1 (List.map (Value.int .u8) f.Data)]), (3, .box 24 [.v (.int .i64 f.Kind), .v (.int .i64 f.Number), .v (.int .i64 f.Offset), .v (.int .i64 f.Seq), .fl .shr 1 (List.map (Value.int .u8) f.Data)]), (4, .v (.bool s106))]) ?_ ?_
            · rintro s106 h
              refine pt_inb ?_
              exact hl92 _ (Option.some.inj h).symm
            · intro u107 h hl108 hr109
              refine cond_some h (fun hg11_1 h => ?_) (fun hg11_1 h => ?_)
              · obtain ⟨v15, hv15, h⟩ := bind_some h
                refine cond_some h (fun hg11_6 h => ?_) (fun hg11_6 h => ?_)
                · obtain ⟨v16, hv16, h⟩ := bind_some h
                  refine cond_some h (fun hg11_11 h => ?_) (fun hg11_11 h => ?_)
                  · obtain ⟨v17, hv17, h⟩ := bind_some h
                    refine ht_seqR hn (El := (_ :: _ :: _ :: (38, .v (.bool v1)) :: (39, .v (.bool true)) :: (40, .ptr 1 2) :: (41, .v (.int .i64 f.Offset)) :: (42, .v (.bool v15)) :: (43, .v (.bool v15)) :: (44, .v (.bool true)) :: (45, .ptr 1 3) :: (46, .v (.int .i64 f.Seq)) :: (47, .v (.bool v16)) :: (48, .v (.bool v16)) :: (49, .v (.bool true)) :: (50, .ptr 1 4) :: (51, .fl .shr 1 (List.map (Value.int .u8) f.Data)) :: (52, .v (.int .i64 (f.Data.length : Int))) :: (53, .v (.bool v17)) :: (54, .v (.bool v17)) :: (4, .v (.bool v17)) :: [])) (init := [0, 1, 2]) (fin := [0, 1, 20]) (sps := (⟨[2], [], [3], [(.slot 38)]⟩ :: ⟨[3], [], [4], [(.slot 39)]⟩ :: ⟨[4, 0], [], [5], [(.slot 40)]⟩ :: ⟨[4, 5, 0], [], [6], [(.slot 41)]⟩ :: ⟨[4, 6], [], [7], [(.slot 42)]⟩ :: ⟨[4, 7], [], [8], [(.slot 43)]⟩ :: ⟨[8], [], [9], [(.slot 44)]⟩ :: ⟨[9, 0], [], [10], [(.slot 45)]⟩ :: ⟨[9, 10, 0], [], [11], [(.slot 46)]⟩ :: ⟨[9, 11], [], [12], [(.slot 47)]⟩ :: ⟨[9, 12], [], [13], [(.slot 48)]⟩ :: ⟨[13], [], [14], [(.slot 49)]⟩ :: ⟨[14, 0], [], [15], [(.slot 50)]⟩ :: ⟨[14, 15, 0], [], [16], [(.slot 51)]⟩ :: ⟨[14, 16], [], [17], [(.slot 52)]⟩ :: ⟨[14, 17], [], [18], [(.slot 53)]⟩ :: ⟨[14, 18], [], [19], [(.slot 54)]⟩ :: ⟨[19], [2], [20], [(.slot 4)]⟩ :: [])) (es' := [(_, _), (_, _), (4, .v (.bool v17))]) (by kernel_rfl) rfl rfl
                      ⟨st_plain rfl (op_move _ _ _ _ rfl rfl),
                        st_plain rfl (op_move _ _ _ _ (congrArg (fun b => AV.v (Value.bool b)) hg11_1) rfl),
                        st_run 1 39 true rfl rfl rfl (List.Mem.head _) (op_fieldAddr _ _ _ _ 1 0 _ Try.underlying24 rfl sz3 rfl rfl (by decide)),
                        st_run 1 39 true rfl rfl rfl (List.Mem.head _) (op_load _ _ _ _ _ _ Try.underlying3 rfl rfl rfl (Nat.le_of_ble_eq_true rfl) rfl rfl rfl),
                        st_run 1 39 true rfl rfl rfl (List.Mem.head _) (op_call _ _ 25 _ _ rfl Try.call25 rfl (ok_wherryref18_in f.Offset 0 5000 _ hv15) rfl rfl),
                        st_plain rfl (op_pick _ _ true _ rfl rfl),
                        st_plain rfl (op_move _ _ _ _ (congrArg (fun b => AV.v (Value.bool b)) hg11_6) rfl),
                        st_run 6 44 true rfl rfl rfl (List.Mem.head _) (op_fieldAddr _ _ _ _ 1 0 _ Try.underlying24 rfl sz3 rfl rfl (by decide)),
                        st_run 6 44 true rfl rfl rfl (List.Mem.head _) (op_load _ _ _ _ _ _ Try.underlying3 rfl rfl rfl (Nat.le_of_ble_eq_true rfl) rfl rfl rfl),
                        st_run 6 44 true rfl rfl rfl (List.Mem.head _) (op_call _ _ 25 _ _ rfl Try.call25 rfl (ok_wherryref18_in f.Seq 0 7 _ hv16) rfl rfl),
                        st_plain rfl (op_pick _ _ true _ rfl rfl),
                        st_plain rfl (op_move _ _ _ _ (congrArg (fun b => AV.v (Value.bool b)) hg11_11) rfl),
                        st_run 11 49 true rfl rfl rfl (List.Mem.head _) (op_fieldAddr _ _ _ _ 1 0 _ Try.underlying24 rfl sz22 rfl rfl (by decide)),
                        st_run 11 49 true rfl rfl rfl (List.Mem.head _) (op_load _ _ _ _ _ _ Try.underlying22 rfl rfl rfl (Nat.le_of_ble_eq_true rfl) rfl rfl rfl),
                        st_run 11 49 true rfl rfl rfl (List.Mem.head _) (op_len_fl _ _ _ Try.underlying22 rfl (by decide) (map_len _)),
                        st_run 11 49 true rfl rfl rfl (List.Mem.head _) (op_call _ _ 25 _ _ rfl Try.call25 rfl (ok_wherryref18_in (f.Data.length : Int) 1 48 _ hv17) rfl rfl),
                        st_plain rfl (op_pick _ _ true _ rfl rfl),
                        st_plain rfl (LOp.drop [_] (op_assign _ _ _ _ rfl rfl)),
                        trivial⟩ ?_
                    exact hl108 _ (Option.some.inj h).symm
                  · refine ht_seqR hn (El := (_ :: _ :: _ :: (38, .v (.bool v1)) :: (39, .v (.bool true)) :: (40, .ptr 1 2) :: (41, .v (.int .i64 f.Offset)) :: (42, .v (.bool v15)) :: (43, .v (.bool v15)) :: (44, .v (.bool true)) :: (45, .ptr 1 3) :: (46, .v (.int .i64 f.Seq)) :: (47, .v (.bool v16)) :: (48, .v (.bool v16)) :: (49, .v (.bool false)) :: (50, .v undef) :: (51, .v undef) :: (52, .v undef) :: (53, .v undef) :: (54, .v (.bool false)) :: (4, .v (.bool false)) :: [])) (init := [0, 1, 2]) (fin := [0, 1, 20]) (sps := (⟨[2], [], [3], [(.slot 38)]⟩ :: ⟨[3], [], [4], [(.slot 39)]⟩ :: ⟨[4, 0], [], [5], [(.slot 40)]⟩ :: ⟨[4, 5, 0], [], [6], [(.slot 41)]⟩ :: ⟨[4, 6], [], [7], [(.slot 42)]⟩ :: ⟨[4, 7], [], [8], [(.slot 43)]⟩ :: ⟨[8], [], [9], [(.slot 44)]⟩ :: ⟨[9, 0], [], [10], [(.slot 45)]⟩ :: ⟨[9, 10, 0], [], [11], [(.slot 46)]⟩ :: ⟨[9, 11], [], [12], [(.slot 47)]⟩ :: ⟨[9, 12], [], [13], [(.slot 48)]⟩ :: ⟨[13], [], [14], [(.slot 49)]⟩ :: ⟨[14], [], [15], [(.slot 50)]⟩ :: ⟨[14], [], [16], [(.slot 51)]⟩ :: ⟨[14], [], [17], [(.slot 52)]⟩ :: ⟨[14], [], [18], [(.slot 53)]⟩ :: ⟨[14], [], [19], [(.slot 54)]⟩ :: ⟨[19], [2], [20], [(.slot 4)]⟩ :: [])) (es' := [(_, _), (_, _), (4, .v (.bool false))]) (by kernel_rfl) rfl rfl
                      ⟨st_plain rfl (op_move _ _ _ _ rfl rfl),
                        st_plain rfl (op_move _ _ _ _ (congrArg (fun b => AV.v (Value.bool b)) hg11_1) rfl),
                        st_run 1 39 true rfl rfl rfl (List.Mem.head _) (op_fieldAddr _ _ _ _ 1 0 _ Try.underlying24 rfl sz3 rfl rfl (by decide)),
                        st_run 1 39 true rfl rfl rfl (List.Mem.head _) (op_load _ _ _ _ _ _ Try.underlying3 rfl rfl rfl (Nat.le_of_ble_eq_true rfl) rfl rfl rfl),
                        st_run 1 39 true rfl rfl rfl (List.Mem.head _) (op_call _ _ 25 _ _ rfl Try.call25 rfl (ok_wherryref18_in f.Offset 0 5000 _ hv15) rfl rfl),
                        st_plain rfl (op_pick _ _ true _ rfl rfl),
                        st_plain rfl (op_move _ _ _ _ (congrArg (fun b => AV.v (Value.bool b)) hg11_6) rfl),
                        st_run 6 44 true rfl rfl rfl (List.Mem.head _) (op_fieldAddr _ _ _ _ 1 0 _ Try.underlying24 rfl sz3 rfl rfl (by decide)),
                        st_run 6 44 true rfl rfl rfl (List.Mem.head _) (op_load _ _ _ _ _ _ Try.underlying3 rfl rfl rfl (Nat.le_of_ble_eq_true rfl) rfl rfl rfl),
                        st_run 6 44 true rfl rfl rfl (List.Mem.head _) (op_call _ _ 25 _ _ rfl Try.call25 rfl (ok_wherryref18_in f.Seq 0 7 _ hv16) rfl rfl),
                        st_plain rfl (op_pick _ _ true _ rfl rfl),
                        st_plain rfl (op_move _ _ _ _ (congrArg (fun b => AV.v (Value.bool b)) hg11_11) rfl),
                        st_skip 11 49 _ true rfl rfl rfl rfl (List.Mem.head _),
                        st_skip 11 49 _ true rfl rfl rfl rfl (List.Mem.head _),
                        st_skip 11 49 _ true rfl rfl rfl rfl (List.Mem.head _),
                        st_skip 11 49 _ true rfl rfl rfl rfl (List.Mem.head _),
                        st_plain rfl (op_pick _ _ false _ rfl rfl),
                        st_plain rfl (LOp.drop [_] (op_assign _ _ _ _ rfl rfl)),
                        trivial⟩ ?_
                    exact hl108 _ (Option.some.inj h).symm
                · refine ht_seqR hn (El := (_ :: _ :: _ :: (38, .v (.bool v1)) :: (39, .v (.bool true)) :: (40, .ptr 1 2) :: (41, .v (.int .i64 f.Offset)) :: (42, .v (.bool v15)) :: (43, .v (.bool v15)) :: (44, .v (.bool false)) :: (45, .v undef) :: (46, .v undef) :: (47, .v undef) :: (48, .v (.bool false)) :: (49, .v (.bool false)) :: (50, .v undef) :: (51, .v undef) :: (52, .v undef) :: (53, .v undef) :: (54, .v (.bool false)) :: (4, .v (.bool false)) :: [])) (init := [0, 1, 2]) (fin := [0, 1, 20]) (sps := (⟨[2], [], [3], [(.slot 38)]⟩ :: ⟨[3], [], [4], [(.slot 39)]⟩ :: ⟨[4, 0], [], [5], [(.slot 40)]⟩ :: ⟨[4, 5, 0], [], [6], [(.slot 41)]⟩ :: ⟨[4, 6], [], [7], [(.slot 42)]⟩ :: ⟨[4, 7], [], [8], [(.slot 43)]⟩ :: ⟨[8], [], [9], [(.slot 44)]⟩ :: ⟨[9], [], [10], [(.slot 45)]⟩ :: ⟨[9], [], [11], [(.slot 46)]⟩ :: ⟨[9], [], [12], [(.slot 47)]⟩ :: ⟨[9], [], [13], [(.slot 48)]⟩ :: ⟨[13], [], [14], [(.slot 49)]⟩ :: ⟨[14], [], [15], [(.slot 50)]⟩ :: ⟨[14], [], [16], [(.slot 51)]⟩ :: ⟨[14], [], [17], [(.slot 52)]⟩ :: ⟨[14], [], [18], [(.slot 53)]⟩ :: ⟨[14], [], [19], [(.slot 54)]⟩ :: ⟨[19], [2], [20], [(.slot 4)]⟩ :: [])) (es' := [(_, _), (_, _), (4, .v (.bool false))]) (by kernel_rfl) rfl rfl
                    ⟨st_plain rfl (op_move _ _ _ _ rfl rfl),
                      st_plain rfl (op_move _ _ _ _ (congrArg (fun b => AV.v (Value.bool b)) hg11_1) rfl),
                      st_run 1 39 true rfl rfl rfl (List.Mem.head _) (op_fieldAddr _ _ _ _ 1 0 _ Try.underlying24 rfl sz3 rfl rfl (by decide)),
                      st_run 1 39 true rfl rfl rfl (List.Mem.head _) (op_load _ _ _ _ _ _ Try.underlying3 rfl rfl rfl (Nat.le_of_ble_eq_true rfl) rfl rfl rfl),
                      st_run 1 39 true rfl rfl rfl (List.Mem.head _) (op_call _ _ 25 _ _ rfl Try.call25 rfl (ok_wherryref18_in f.Offset 0 5000 _ hv15) rfl rfl),
                      st_plain rfl (op_pick _ _ true _ rfl rfl),
                      st_plain rfl (op_move _ _ _ _ (congrArg (fun b => AV.v (Value.bool b)) hg11_6) rfl),
                      st_skip 6 44 _ true rfl rfl rfl rfl (List.Mem.head _),
                      st_skip 6 44 _ true rfl rfl rfl rfl (List.Mem.head _),
                      st_skip 6 44 _ true rfl rfl rfl rfl (List.Mem.head _),
                      st_plain rfl (op_pick _ _ false _ rfl rfl),
                      st_plain rfl (op_move _ _ _ _ rfl rfl),
                      st_skip 11 49 _ true rfl rfl rfl rfl (List.Mem.head _),
                      st_skip 11 49 _ true rfl rfl rfl rfl (List.Mem.head _),
                      st_skip 11 49 _ true rfl rfl rfl rfl (List.Mem.head _),
                      st_skip 11 49 _ true rfl rfl rfl rfl (List.Mem.head _),
                      st_plain rfl (op_pick _ _ false _ rfl rfl),
                      st_plain rfl (LOp.drop [_] (op_assign _ _ _ _ rfl rfl)),
                      trivial⟩ ?_
                  exact hl108 _ (Option.some.inj h).symm
              · refine ht_seqR hn (El := (_ :: _ :: _ :: (38, .v (.bool v1)) :: (39, .v (.bool false)) :: (40, .v undef) :: (41, .v undef) :: (42, .v undef) :: (43, .v (.bool false)) :: (44, .v (.bool false)) :: (45, .v undef) :: (46, .v undef) :: (47, .v undef) :: (48, .v (.bool false)) :: (49, .v (.bool false)) :: (50, .v undef) :: (51, .v undef) :: (52, .v undef) :: (53, .v undef) :: (54, .v (.bool false)) :: (4, .v (.bool false)) :: [])) (init := [0, 1, 2]) (fin := [0, 1, 20]) (sps := (⟨[2], [], [3], [(.slot 38)]⟩ :: ⟨[3], [], [4], [(.slot 39)]⟩ :: ⟨[4], [], [5], [(.slot 40)]⟩ :: ⟨[4], [], [6], [(.slot 41)]⟩ :: ⟨[4], [], [7], [(.slot 42)]⟩ :: ⟨[4], [], [8], [(.slot 43)]⟩ :: ⟨[8], [], [9], [(.slot 44)]⟩ :: ⟨[9], [], [10], [(.slot 45)]⟩ :: ⟨[9], [], [11], [(.slot 46)]⟩ :: ⟨[9], [], [12], [(.slot 47)]⟩ :: ⟨[9], [], [13], [(.slot 48)]⟩ :: ⟨[13], [], [14], [(.slot 49)]⟩ :: ⟨[14], [], [15], [(.slot 50)]⟩ :: ⟨[14], [], [16], [(.slot 51)]⟩ :: ⟨[14], [], [17], [(.slot 52)]⟩ :: ⟨[14], [], [18], [(.slot 53)]⟩ :: ⟨[14], [], [19], [(.slot 54)]⟩ :: ⟨[19], [2], [20], [(.slot 4)]⟩ :: [])) (es' := [(_, _), (_, _), (4, .v (.bool false))]) (by kernel_rfl) rfl rfl
                  ⟨st_plain rfl (op_move _ _ _ _ rfl rfl),
                    st_plain rfl (op_move _ _ _ _ (congrArg (fun b => AV.v (Value.bool b)) hg11_1) rfl),
                    st_skip 1 39 _ true rfl rfl rfl rfl (List.Mem.head _),
                    st_skip 1 39 _ true rfl rfl rfl rfl (List.Mem.head _),
                    st_skip 1 39 _ true rfl rfl rfl rfl (List.Mem.head _),
                    st_plain rfl (op_pick _ _ false _ rfl rfl),
                    st_plain rfl (op_move _ _ _ _ rfl rfl),
                    st_skip 6 44 _ true rfl rfl rfl rfl (List.Mem.head _),
                    st_skip 6 44 _ true rfl rfl rfl rfl (List.Mem.head _),
                    st_skip 6 44 _ true rfl rfl rfl rfl (List.Mem.head _),
                    st_plain rfl (op_pick _ _ false _ rfl rfl),
                    st_plain rfl (op_move _ _ _ _ rfl rfl),
                    st_skip 11 49 _ true rfl rfl rfl rfl (List.Mem.head _),
                    st_skip 11 49 _ true rfl rfl rfl rfl (List.Mem.head _),
                    st_skip 11 49 _ true rfl rfl rfl rfl (List.Mem.head _),
                    st_skip 11 49 _ true rfl rfl rfl rfl (List.Mem.head _),
                    st_plain rfl (op_pick _ _ false _ rfl rfl),
                    st_plain rfl (LOp.drop [_] (op_assign _ _ _ _ rfl rfl)),
                    trivial⟩ ?_
                exact hl108 _ (Option.some.inj h).symm
          · have h := cond_f hb105 h
            refine ht_seq ?_
            refine ht_seqR hn (El := [_, _, _, _, _, (56, .v (.bool (f.Kind == 4))), (55, .v (.bool (f.Kind == 4)))]) (init := [0, 1, 2, 3, 4]) (fin := [0, 1, 2, 3, 6]) (sps := [⟨[3], [], [5], [(.slot 56)]⟩, ⟨[5], [], [6], [(.slot 55)]⟩]) (es' := [(_, _), (_, _), (_, _), (_, _), (55, .v (.bool (f.Kind == 4)))]) (by kernel_rfl) rfl rfl
              ⟨st_plain rfl (op_bin _ _ _ _ _ rfl rfl rfl),
                st_plain rfl (op_assign _ _ _ _ rfl rfl),
                trivial⟩ ?_
            refine pt_then ?_
            refine ht_cond _ rfl (fun hb110 => ?_) (fun hb110 => ?_)
            · have h := cond_t hb110 h
              refine ht_seq ?_
              refine ht_seqR hn (El := [_, _, _, _, _, (57, .ptr 1 3), (58, .v (.int .i64 f.Seq)), (59, .ptr 3 3), (3, .box 24 [.v (.int .i64 f.Kind), .v (.int .i64 f.Number), .v (.int .i64 0), .v (.int .i64 f.Seq), .v (.slice none 0 0)])]) (init := [0, 1, 2, 3, 4]) (fin := [0, 8, 2]) (sps := [⟨[0], [], [5], [(.slot 57)]⟩, ⟨[5, 0], [], [6], [(.slot 58)]⟩, ⟨[1], [], [7], [(.slot 59)]⟩, ⟨[7, 6], [1], [8], [.cell 3 3]⟩]) (es' := [(_, _), (3, .box 24 [.v (.int .i64 f.Kind), .v (.int .i64 f.Number), .v (.int .i64 0), .v (.int .i64 f.Seq), .v (.slice none 0 0)]), (_, _)]) (by kernel_rfl) rfl rfl
                ⟨st_plain rfl (op_fieldAddr _ _ _ _ 1 0 _ Try.underlying24 rfl sz3 rfl rfl (by decide)),
                  st_plain rfl (op_load _ _ _ _ _ _ Try.underlying3 rfl rfl rfl (Nat.le_of_ble_eq_true rfl) rfl rfl rfl),
                  st_plain rfl (op_fieldAddr _ _ _ _ 3 0 _ Try.underlying24 rfl sz3 rfl rfl (by decide)),
                  st_plain rfl (op_store _ _ _ _ _ _ _ _ sz3 rfl rfl rfl rfl (Nat.le_of_ble_eq_true rfl) rfl rfl),
                  trivial⟩ ?_
              refine pt_then ?_
              refine ht_joinS h (fun (s111 : Bool) => [(1, .box 24 [.v (.int .i64 f.Kind), .v (.int .i64 f.Number), .v (.int .i64 f.Offset), .v (.int .i64 f.Seq), .fl .shr 1 (List.map (Value.int .u8) f.Data)]), (3, .box 24 [.v (.int .i64 f.Kind), .v (.int .i64 f.Number), .v (.int .i64 0), .v (.int .i64 f.Seq), .v (.slice none 0 0)]), (4, .v (.bool s111))]) ?_ ?_
              · rintro s111 h
                refine pt_inb ?_
                refine pt_sub (fs := [(1, .box 24 [.v (.int .i64 f.Kind), .v (.int .i64 f.Number), .v (.int .i64 f.Offset), .v (.int .i64 f.Seq), .fl .shr 1 (List.map (Value.int .u8) f.Data)]), (3, .box 24 [.v (.int .i64 f.Kind), .v (.int .i64 f.Number), .v (.int .i64 0), .v (.int .i64 f.Seq), .fl .shr 1 (List.map (Value.int .u8) [])]), (4, .v (.bool s111))]) (.same _ (.box _ _ (subs_cons (sub_refl _) (subs_cons (sub_refl _) (subs_cons (sub_refl _) (subs_cons (sub_refl _) (subs_cons (sub_nil_shr 1) (subs_nil)))))) rfl (.same _ .nil))) ?_
                exact hl92 _ (Option.some.inj h).symm
              · intro u112 h hl113 hr114
                refine cond_some h (fun hg14_1 h => ?_) (fun hg14_1 h => ?_)
                · obtain ⟨v23, hv23, h⟩ := bind_some h
                  refine ht_seqR hn (El := [_, _, _, (60, .v (.bool v1)), (61, .v (.bool true)), (62, .ptr 1 3), (63, .v (.int .i64 f.Seq)), (64, .v (.bool v23)), (65, .v (.bool v23)), (4, .v (.bool v23))]) (init := [0, 1, 2]) (fin := [0, 1, 9]) (sps := [⟨[2], [], [3], [(.slot 60)]⟩, ⟨[3], [], [4], [(.slot 61)]⟩, ⟨[4, 0], [], [5], [(.slot 62)]⟩, ⟨[4, 5, 0], [], [6], [(.slot 63)]⟩, ⟨[4, 6], [], [7], [(.slot 64)]⟩, ⟨[4, 7], [], [8], [(.slot 65)]⟩, ⟨[8], [2], [9], [(.slot 4)]⟩]) (es' := [(_, _), (_, _), (4, .v (.bool v23))]) (by kernel_rfl) rfl rfl
                    ⟨st_plain rfl (op_move _ _ _ _ rfl rfl),
                      st_plain rfl (op_move _ _ _ _ (congrArg (fun b => AV.v (Value.bool b)) hg14_1) rfl),
                      st_run 1 61 true rfl rfl rfl (List.Mem.head _) (op_fieldAddr _ _ _ _ 1 0 _ Try.underlying24 rfl sz3 rfl rfl (by decide)),
                      st_run 1 61 true rfl rfl rfl (List.Mem.head _) (op_load _ _ _ _ _ _ Try.underlying3 rfl rfl rfl (Nat.le_of_ble_eq_true rfl) rfl rfl rfl),
                      st_run 1 61 true rfl rfl rfl (List.Mem.head _) (op_call _ _ 25 _ _ rfl Try.call25 rfl (ok_wherryref18_in f.Seq 0 7 _ hv23) rfl rfl),
                      st_plain rfl (op_pick _ _ true _ rfl rfl),
                      st_plain rfl (LOp.drop [_] (op_assign _ _ _ _ rfl rfl)),
                      trivial⟩ ?_
                  exact hl113 _ (Option.some.inj h).symm
                · refine ht_seqR hn (El := [_, _, _, (60, .v (.bool v1)), (61, .v (.bool false)), (62, .v undef), (63, .v undef), (64, .v undef), (65, .v (.bool false)), (4, .v (.bool false))]) (init := [0, 1, 2]) (fin := [0, 1, 9]) (sps := [⟨[2], [], [3], [(.slot 60)]⟩, ⟨[3], [], [4], [(.slot 61)]⟩, ⟨[4], [], [5], [(.slot 62)]⟩, ⟨[4], [], [6], [(.slot 63)]⟩, ⟨[4], [], [7], [(.slot 64)]⟩, ⟨[4], [], [8], [(.slot 65)]⟩, ⟨[8], [2], [9], [(.slot 4)]⟩]) (es' := [(_, _), (_, _), (4, .v (.bool false))]) (by kernel_rfl) rfl rfl
                    ⟨st_plain rfl (op_move _ _ _ _ rfl rfl),
                      st_plain rfl (op_move _ _ _ _ (congrArg (fun b => AV.v (Value.bool b)) hg14_1) rfl),
                      st_skip 1 61 _ true rfl rfl rfl rfl (List.Mem.head _),
                      st_skip 1 61 _ true rfl rfl rfl rfl (List.Mem.head _),
                      st_skip 1 61 _ true rfl rfl rfl rfl (List.Mem.head _),
                      st_plain rfl (op_pick _ _ false _ rfl rfl),
                      st_plain rfl (LOp.drop [_] (op_assign _ _ _ _ rfl rfl)),
                      trivial⟩ ?_
                  exact hl113 _ (Option.some.inj h).symm
            · have h := cond_f hb110 h
              refine ht_seq ?_
              refine ht_seqR hn (El := [_, _, _, _, _, (67, .v (.bool (f.Kind == 5))), (66, .v (.bool (f.Kind == 5)))]) (init := [0, 1, 2, 3, 4]) (fin := [0, 1, 2, 6]) (sps := [⟨[3], [], [5], [(.slot 67)]⟩, ⟨[5], [], [6], [(.slot 66)]⟩]) (es' := [(_, _), (_, _), (_, _), (66, .v (.bool (f.Kind == 5)))]) (by kernel_rfl) rfl rfl
                ⟨st_plain rfl (op_bin _ _ _ _ _ rfl rfl rfl),
                  st_plain rfl (op_assign _ _ _ _ rfl rfl),
                  trivial⟩ ?_
              refine pt_then ?_
              refine ht_cond _ rfl (fun hb115 => ?_) (fun hb115 => ?_)
              · have h := cond_t hb115 h
                refine ht_skip ?_
                refine pt_inb ?_
                refine pt_pick [0, 1, 2] (by kernel_rfl) (es' := [(_, _), (_, _), (_, _)]) rfl ?_
                refine pt_sub (fs := [(1, .box 24 [.v (.int .i64 f.Kind), .v (.int .i64 f.Number), .v (.int .i64 f.Offset), .v (.int .i64 f.Seq), .fl .shr 1 (List.map (Value.int .u8) f.Data)]), (3, .box 24 [.v (.int .i64 f.Kind), .v (.int .i64 f.Number), .v (.int .i64 0), .v (.int .i64 0), .fl .shr 1 (List.map (Value.int .u8) [])]), (4, .v (.bool v1))]) (.same _ (.box _ _ (subs_cons (sub_refl _) (subs_cons (sub_refl _) (subs_cons (sub_refl _) (subs_cons (sub_refl _) (subs_cons (sub_nil_shr 1) (subs_nil)))))) rfl (.same _ .nil))) ?_
                exact hl92 _ (Option.some.inj h).symm
              · have h := cond_f hb115 h
                refine ht_seqR hn (El := [_, _, _, _, (4, .v (.bool false))]) (init := [0, 1, 2, 3]) (fin := [0, 1, 4]) (sps := [⟨[], [2], [4], [(.slot 4)]⟩]) (es' := [(_, _), (_, _), (4, .v (.bool false))]) (by kernel_rfl) rfl rfl
                  ⟨st_plain rfl (LOp.drop [_] (op_assign _ _ _ _ rfl rfl)),
                    trivial⟩ ?_
                refine pt_inb ?_
                refine pt_sub (fs := [(1, .box 24 [.v (.int .i64 f.Kind), .v (.int .i64 f.Number), .v (.int .i64 f.Offset), .v (.int .i64 f.Seq), .fl .shr 1 (List.map (Value.int .u8) f.Data)]), (3, .box 24 [.v (.int .i64 f.Kind), .v (.int .i64 f.Number), .v (.int .i64 0), .v (.int .i64 0), .fl .shr 1 (List.map (Value.int .u8) [])]), (4, .v (.bool false))]) (.same _ (.box _ _ (subs_cons (sub_refl _) (subs_cons (sub_refl _) (subs_cons (sub_refl _) (subs_cons (sub_refl _) (subs_cons (sub_nil_shr 1) (subs_nil)))))) rfl (.same _ .nil))) ?_
                exact hl92 _ (Option.some.inj h).symm
      · intro u96 h hl97 hr98
        refine ht_seq ?_
        refine ht_seqR hn (El := [_, _, _, _, (16, .v (.bool (f.Kind == 1))), (15, .v (.bool (f.Kind == 1)))]) (init := [0, 1, 2, 3]) (fin := [0, 1, 2, 3, 5]) (sps := [⟨[3], [], [4], [(.slot 16)]⟩, ⟨[4], [], [5], [(.slot 15)]⟩]) (es' := [(_, _), (_, _), (_, _), (_, _), (15, .v (.bool (f.Kind == 1)))]) (by kernel_rfl) rfl rfl
          ⟨st_plain rfl (op_bin _ _ _ _ _ rfl rfl rfl),
            st_plain rfl (op_assign _ _ _ _ rfl rfl),
            trivial⟩ ?_
        refine pt_then ?_
        refine ht_cond _ rfl (fun hb99 => ?_) (fun hb99 => ?_)
        · have h := cond_t hb99 h
          refine ht_skip ?_
          exact hl97 _ (Option.some.inj h).symm
        · have h := cond_f hb99 h
          refine ht_seqR hn (El := [_, _, _, _, _, (17, .v (.bool (f.Kind == 2))), (15, .v (.bool (f.Kind == 2)))]) (init := [0, 1, 2, 3, 4]) (fin := [0, 1, 2, 3, 6]) (sps := [⟨[3], [], [5], [(.slot 17)]⟩, ⟨[5], [4], [6], [(.slot 15)]⟩]) (es' := [(_, _), (_, _), (_, _), (_, _), (15, .v (.bool (f.Kind == 2)))]) (by kernel_rfl) rfl rfl
            ⟨st_plain rfl (op_bin _ _ _ _ _ rfl rfl rfl),
              st_plain rfl (LOp.drop [_] (op_assign _ _ _ _ rfl rfl)),
              trivial⟩ ?_
          exact hl97 _ (Option.some.inj h).symm

set_option maxHeartbeats 1000000 in
theorem ok_wherryref18_ReadFrame (b : (List Int)) (r : (T_Frame × Int)) (h : Sh.wherryref18_ReadFrame b = some r) : FnOK Try.prog 14 [.fl .shr 1 (List.map (Value.int .u8) b)] (.tup [.agg [.v (.int .i64 r.1.Kind), .v (.int .i64 r.1.Number), .v (.int .i64 r.1.Offset), .v (.int .i64 r.1.Seq), .fl (.own 5) 1 (List.map (Value.int .u8) r.1.Data)], .v (.int .i64 r.2)]) := by
  unfold Sh.wherryref18_ReadFrame at h
  refine fn_ok Try.func14 rfl (Nat.le_of_ble_eq_true rfl) rfl rfl fun g0 hn hio => ?_
  refine ht_seq ?_
  refine ht_seqR hn (El := [_, (2, .box 24 [.v (.int .i64 0), .v (.int .i64 0), .v (.int .i64 0), .v (.int .i64 0), .v (.slice none 0 0)]), (3, .v (.int .i64 0))]) (init := [0]) (fin := [0, 1]) (sps := [⟨[], [], [1], [(.slot 2)]⟩, ⟨[], [], [2], [(.slot 3)]⟩]) (es' := [(_, _), (2, .box 24 [.v (.int .i64 0), .v (.int .i64 0), .v (.int .i64 0), .v (.int .i64 0), .v (.slice none 0 0)])]) (by kernel_rfl) rfl rfl
    ⟨st_plain rfl (op_alloc _ _ zr24),
      st_plain rfl (op_assign _ _ _ _ rfl rfl),
      trivial⟩ ?_
  refine pt_then ?_
  refine ht_seq ?_
  refine ht_seq ?_
  obtain ⟨v1, hv1, h⟩ := bind_some h
  refine ht_seqR hn (El := [_, _, (6, .fl .shr 1 (List.map (Value.int .u8) b)), (7, .v (.int .i64 (b.length : Int))), (8, .v (.bool v1)), (9, .v (.bool (!v1)))]) (init := [0, 1]) (fin := [0, 1, 5]) (sps := [⟨[0], [], [2], [(.slot 6)]⟩, ⟨[2], [], [3], [(.slot 7)]⟩, ⟨[3], [], [4], [(.slot 8)]⟩, ⟨[4], [], [5], [(.slot 9)]⟩]) (es' := [(_, _), (_, _), (9, .v (.bool (!v1)))]) (by kernel_rfl) rfl rfl
    ⟨st_plain rfl (op_move _ _ _ _ rfl rfl),
      st_plain rfl (op_len_fl _ _ _ Try.underlying22 rfl (by decide) (map_len _)),
      st_plain rfl (op_call _ _ 25 _ _ rfl Try.call25 rfl (ok_wherryref18_in (b.length : Int) 9 57 _ hv1) rfl rfl),
      st_plain rfl (op_un _ _ _ _ rfl rfl),
      trivial⟩ ?_
  refine pt_then ?_
  refine ht_cond _ rfl (fun hb2 => ?_) (fun hb2 => ?_)
  · have h := cond_t hb2 h
    refine ht_seq ?_
    refine ht_seqR hn (El := [_, _, _, (10, .agg [.v (.int .i64 0), .v (.int .i64 0), .v (.int .i64 0), .v (.int .i64 0), .v (.slice none 0 0)]), (2, .box 24 [.v (.int .i64 0), .v (.int .i64 0), .v (.int .i64 0), .v (.int .i64 0), .v (.slice none 0 0)]), (3, .v (.int .i64 3))]) (init := [0, 1, 2]) (fin := [4, 5]) (sps := [⟨[], [], [3], [(.slot 10)]⟩, ⟨[3], [1], [4], [.cell 2 0, .cell 2 1, .cell 2 2, .cell 2 3, .cell 2 4]⟩, ⟨[], [], [5], [(.slot 3)]⟩]) (es' := [(2, .box 24 [.v (.int .i64 0), .v (.int .i64 0), .v (.int .i64 0), .v (.int .i64 0), .v (.slice none 0 0)]), (3, .v (.int .i64 3))]) (by kernel_rfl) rfl rfl
      ⟨st_plain rfl (op_build _ _ _ _ [1, 1, 1, 1, 1] _ _ Try.underlying24 zr24 (fs24 _ Try.underlying24) Src.nil rfl rfl rfl),
        st_plain rfl (op_store _ _ _ _ _ _ _ _ sz24 rfl rfl rfl rfl (Nat.le_of_ble_eq_true rfl) rfl rfl),
        st_plain rfl (op_assign _ _ _ _ rfl rfl),
        trivial⟩ ?_
    refine pt_then ?_
    refine ht_ret ?_
    refine pt_sub (fs := [(2, .box 24 [.v (.int .i64 0), .v (.int .i64 0), .v (.int .i64 0), .v (.int .i64 0), .fl (.own 5) 1 (List.map (Value.int .u8) [])]), (3, .v (.int .i64 3))]) (.box _ _ (subs_cons (sub_refl _) (subs_cons (sub_refl _) (subs_cons (sub_refl _) (subs_cons (sub_refl _) (subs_cons (sub_nil 5 1) (subs_nil)))))) rfl (.same _ .nil)) ?_
    refine pt_r_then ?_
    obtain rfl := Option.some.inj h
    exact pt_ret hio rfl (.cellA _ _ _ _ Try.underlying24 rfl sz24 (.tmp _ _ .nil)) rfl rfl
  · have h := cond_f hb2 h
    refine ht_skip ?_
    refine pt_then ?_
    refine ht_seq ?_
    obtain ⟨v3, hv3, h⟩ := bind_some h
    refine ht_seqR hn (El := [_, _, _, (11, .fl .shr 1 (List.map (Value.int .u8) b)), (12, .v (.int .i64 (b.length : Int))), (13, .v (.int .i64 v3)), (4, .v (.int .i64 v3))]) (init := [0, 1, 2]) (fin := [0, 1, 6]) (sps := [⟨[0], [], [3], [(.slot 11)]⟩, ⟨[3], [], [4], [(.slot 12)]⟩, ⟨[4], [], [5], [(.slot 13)]⟩, ⟨[5], [], [6], [(.slot 4)]⟩]) (es' := [(_, _), (_, _), (4, .v (.int .i64 v3))]) (by kernel_rfl) rfl rfl
      ⟨st_plain rfl (op_move _ _ _ _ rfl rfl),
        st_plain rfl (op_len_fl _ _ _ Try.underlying22 rfl (by decide) (map_len _)),
        st_plain rfl (op_bin _ _ _ _ _ rfl rfl (ibind (f := Value.int .i64) (Option.some.inj hv3))),
        st_plain rfl (op_assign _ _ _ _ rfl rfl),
        trivial⟩ ?_
    refine pt_then ?_
    refine ht_seq ?_
    refine ht_seq ?_
    obtain ⟨v4, hv4, h⟩ := bind_some h
    obtain ⟨v5, hv5, h⟩ := bind_some h
    obtain ⟨v6, hv6, h⟩ := bind_some h
    obtain ⟨v7, hv7, h⟩ := bind_some h
    obtain ⟨v8, hv8, h⟩ := bind_some h
    obtain ⟨v9, hv9, h⟩ := bind_some h
    obtain ⟨v10, hv10, h⟩ := bind_some h
    obtain ⟨v11, hv11, h⟩ := bind_some h
    obtain ⟨v12, hv12, h⟩ := bind_some h
    obtain ⟨v13, hv13, h⟩ := bind_some h
    obtain ⟨v14, hv14, h⟩ := bind_some h
    refine ht_anyR (by kernel_rfl) hn (El := (_ :: _ :: _ :: (14, .fl .shr 1 (List.map (Value.int .u8) b)) :: (15, .v (.int .i64 v3)) :: (16, .fl .shr 1 (List.map (Value.int .u8) v4)) :: (17, .v (.int .i64 v5)) :: (18, .fl .shr 1 (List.map (Value.int .u8) b)) :: (19, .v (.int .i64 v3)) :: (20, .eref (.slot 18) (v6 * 1)) :: (21, .v (.int .u8 v7)) :: (22, .v (.int .i64 v8)) :: (23, .fl .shr 1 (List.map (Value.int .u8) b)) :: (24, .v (.int .i64 v3)) :: (25, .v (.int .i64 v9)) :: (26, .eref (.slot 23) (v10 * 1)) :: (27, .v (.int .u8 v11)) :: (28, .v (.int .i64 v12)) :: (29, .v (.int .i64 v13)) :: (30, .v (.int .i64 v14)) :: (31, .v (.bool (v5 != v14))) :: [])) (init := [0, 1, 2]) (fin := [0, 1, 2, 20]) (sps := (⟨[0], [], [3], [(.slot 14)]⟩ :: ⟨[2], [], [4], [(.slot 15)]⟩ :: ⟨[3, 4], [], [5], [(.slot 16)]⟩ :: ⟨[5], [], [6], [(.slot 17)]⟩ :: ⟨[0], [], [7], [(.slot 18)]⟩ :: ⟨[2], [], [8], [(.slot 19)]⟩ :: ⟨[7, 8], [], [9], [(.slot 20)]⟩ :: ⟨[9, 7], [], [10], [(.slot 21)]⟩ :: ⟨[10], [], [11], [(.slot 22)]⟩ :: ⟨[0], [], [12], [(.slot 23)]⟩ :: ⟨[2], [], [13], [(.slot 24)]⟩ :: ⟨[13], [], [14], [(.slot 25)]⟩ :: ⟨[12, 14], [], [15], [(.slot 26)]⟩ :: ⟨[15, 12], [], [16], [(.slot 27)]⟩ :: ⟨[16], [], [17], [(.slot 28)]⟩ :: ⟨[17], [], [18], [(.slot 29)]⟩ :: ⟨[11, 18], [], [19], [(.slot 30)]⟩ :: ⟨[6, 19], [], [20], [(.slot 31)]⟩ :: [])) (es' := [(_, _), (_, _), (_, _), (31, .v (.bool (v5 != v14)))]) (by kernel_rfl) rfl rfl
      ⟨st_plain rfl (op_move _ _ _ _ rfl rfl),
        st_plain rfl (op_move _ _ _ _ rfl rfl),
        st_plain rfl (op_sl _ _ _ 0 v3 _ Try.underlying22 sz5 rfl rfl rfl ⟨_, rfl⟩ hv4),
        st_plain rfl (op_call _ _ 26 _ _ rfl Try.call26 rfl (ok_wherryref08_Short v4 _ hv5) rfl rfl),
        st_plain rfl (op_move _ _ _ _ rfl rfl),
        st_plain rfl (op_move _ _ _ _ rfl rfl),
        st_plain rfl (op_ix _ _ _ _ _ _ _ _ Try.underlying22 sz5 (by decide) rfl rfl rfl (ix_ok hv6).1 (map_lt (ix_ok hv6).2) rfl),
        st_plain rfl (op_load_e _ _ _ _ _ _ Try.underlying5 rfl rfl rfl (map_get hv7)),
        st_plain rfl ((Option.some.inj hv8) ▸ op_conv _ _ _ Try.underlying5 Try.underlying3 rfl),
        st_plain rfl (op_move _ _ _ _ rfl rfl),
        st_plain rfl (op_move _ _ _ _ rfl rfl),
        st_plain rfl (op_bin _ _ _ _ _ rfl rfl (ibind (f := Value.int .i64) (Option.some.inj hv9))),
        st_plain rfl (op_ix _ _ _ _ _ _ _ _ Try.underlying22 sz5 (by decide) rfl rfl rfl (ix_ok hv10).1 (map_lt (ix_ok hv10).2) rfl),
        st_plain rfl (op_load_e _ _ _ _ _ _ Try.underlying5 rfl rfl rfl (map_get hv11)),
        st_plain rfl ((Option.some.inj hv12) ▸ op_conv _ _ _ Try.underlying5 Try.underlying3 rfl),
        st_plain rfl (op_bin _ _ _ _ _ rfl rfl (shl_ok hv13)),
        st_plain rfl (op_bin _ _ _ _ _ rfl rfl (ibind (f := Value.int .i64) (Option.some.inj hv14))),
        st_plain rfl (op_bin _ _ _ _ _ rfl rfl rfl),
        trivial⟩ ?_
    refine pt_then ?_
    refine ht_cond _ rfl (fun hb15 => ?_) (fun hb15 => ?_)
    · have h := cond_t hb15 h
      refine ht_seq ?_
      refine ht_seqR hn (El := [_, _, _, _, (32, .agg [.v (.int .i64 0), .v (.int .i64 0), .v (.int .i64 0), .v (.int .i64 0), .v (.slice none 0 0)]), (2, .box 24 [.v (.int .i64 0), .v (.int .i64 0), .v (.int .i64 0), .v (.int .i64 0), .v (.slice none 0 0)]), (3, .v (.int .i64 6))]) (init := [0, 1, 2, 3]) (fin := [5, 6]) (sps := [⟨[], [], [4], [(.slot 32)]⟩, ⟨[4], [1], [5], [.cell 2 0, .cell 2 1, .cell 2 2, .cell 2 3, .cell 2 4]⟩, ⟨[], [], [6], [(.slot 3)]⟩]) (es' := [(2, .box 24 [.v (.int .i64 0), .v (.int .i64 0), .v (.int .i64 0), .v (.int .i64 0), .v (.slice none 0 0)]), (3, .v (.int .i64 6))]) (by kernel_rfl) rfl rfl
        ⟨st_plain rfl (op_build _ _ _ _ [1, 1, 1, 1, 1] _ _ Try.underlying24 zr24 (fs24 _ Try.underlying24) Src.nil rfl rfl rfl),
          st_plain rfl (op_store _ _ _ _ _ _ _ _ sz24 rfl rfl rfl rfl (Nat.le_of_ble_eq_true rfl) rfl rfl),
          st_plain rfl (op_assign _ _ _ _ rfl rfl),
          trivial⟩ ?_
      refine pt_then ?_
      refine ht_ret ?_
      refine pt_sub (fs := [(2, .box 24 [.v (.int .i64 0), .v (.int .i64 0), .v (.int .i64 0), .v (.int .i64 0), .fl (.own 5) 1 (List.map (Value.int .u8) [])]), (3, .v (.int .i64 6))]) (.box _ _ (subs_cons (sub_refl _) (subs_cons (sub_refl _) (subs_cons (sub_refl _) (subs_cons (sub_refl _) (subs_cons (sub_nil 5 1) (subs_nil)))))) rfl (.same _ .nil)) ?_
      refine pt_r_then ?_
      obtain rfl := Option.some.inj h
      exact pt_ret hio rfl (.cellA _ _ _ _ Try.underlying24 rfl sz24 (.tmp _ _ .nil)) rfl rfl
    · have h := cond_f hb15 h
      refine ht_skip ?_
      refine pt_then ?_
      refine ht_seq ?_
      obtain ⟨v16, hv16, h⟩ := bind_some h
      obtain ⟨v17, hv17, h⟩ := bind_some h
      obtain ⟨v18, hv18, h⟩ := bind_some h
      obtain ⟨v19, hv19, h⟩ := bind_some h
      obtain ⟨v20, hv20, h⟩ := bind_some h
      obtain ⟨v21, hv21, h⟩ := bind_some h
      obtain ⟨v22, hv22, h⟩ := bind_some h
      obtain ⟨v23, hv23, h⟩ := bind_some h
      obtain ⟨v24, hv24, h⟩ := bind_some h
      obtain ⟨v25, hv25, h⟩ := bind_some h
      obtain ⟨v26, hv26, h⟩ := bind_some h
      obtain ⟨v27, hv27, h⟩ := bind_some h
      obtain ⟨v28, hv28, h⟩ := bind_some h
      obtain ⟨v29, hv29, h⟩ := bind_some h
      obtain ⟨v30, hv30, h⟩ := bind_some h
      obtain ⟨v31, hv31, h⟩ := bind_some h
      obtain ⟨v32, hv32, h⟩ := bind_some h
      obtain ⟨v33, hv33, h⟩ := bind_some h
      obtain ⟨v34, hv34, h⟩ := bind_some h
      obtain ⟨v35, hv35, h⟩ := bind_some h
      obtain ⟨v36, hv36, h⟩ := bind_some h
      obtain ⟨v37, hv37, h⟩ := bind_some h
      obtain ⟨v38, hv38, h⟩ := bind_some h
      obtain ⟨v39, hv39, h⟩ := bind_some h
      refine ht_anyR (by kernel_rfl) hn (El := (_ :: _ :: _ :: _ :: (33, .fl .shr 1 (List.map (Value.int .u8) b)) :: (34, .eref (.slot 33) (v16 * 1)) :: (35, .v (.int .u8 v17)) :: (36, .v (.int .i64 v18)) :: (37, .fl .shr 1 (List.map (Value.int .u8) b)) :: (38, .eref (.slot 37) (v19 * 1)) :: (39, .v (.int .u8 v20)) :: (40, .v (.int .i64 v21)) :: (41, .v (.int .i64 v22)) :: (42, .fl .shr 1 (List.map (Value.int .u8) b)) :: (43, .eref (.slot 42) (v23 * 1)) :: (44, .v (.int .u8 v24)) :: (45, .v (.int .i64 v25)) :: (46, .v (.int .i64 v26)) :: (47, .fl .shr 1 (List.map (Value.int .u8) b)) :: (48, .eref (.slot 47) (v27 * 1)) :: (49, .v (.int .u8 v28)) :: (50, .v (.int .i64 v29)) :: (51, .v (.int .i64 v30)) :: (52, .fl .shr 1 (List.map (Value.int .u8) b)) :: (53, .eref (.slot 52) (v31 * 1)) :: (54, .v (.int .u8 v32)) :: (55, .v (.int .i64 v33)) :: (56, .v (.int .i64 v34)) :: (57, .fl .shr 1 (List.map (Value.int .u8) b)) :: (58, .eref (.slot 57) (v35 * 1)) :: (59, .v (.int .u8 v36)) :: (60, .v (.int .i64 v37)) :: (61, .fl .shr 1 (List.map (Value.int .u8) b)) :: (62, .v (.int .i64 v3)) :: (63, .fl .shr 1 (List.map (Value.int .u8) v38)) :: (64, .fl (.own 5) 1 (List.map (Value.int .u8) v39)) :: (65, .agg [.v (.int .i64 v18), .v (.int .i64 v26), .v (.int .i64 v34), .v (.int .i64 v37), .fl (.own 5) 1 (List.map (Value.int .u8) v39)]) :: (5, .box 24 [.v (.int .i64 0), .v (.int .i64 0), .v (.int .i64 0), .v (.int .i64 0), .v (.slice none 0 0)]) :: (5, .box 24 [.v (.int .i64 v18), .v (.int .i64 v26), .v (.int .i64 v34), .v (.int .i64 v37), .fl (.own 5) 1 (List.map (Value.int .u8) v39)]) :: [])) (init := [0, 1, 2, 3]) (fin := [0, 1, 38]) (sps := (⟨[0], [], [4], [(.slot 33)]⟩ :: ⟨[4], [], [5], [(.slot 34)]⟩ :: ⟨[5, 4], [], [6], [(.slot 35)]⟩ :: ⟨[6], [], [7], [(.slot 36)]⟩ :: ⟨[0], [], [8], [(.slot 37)]⟩ :: ⟨[8], [], [9], [(.slot 38)]⟩ :: ⟨[9, 8], [], [10], [(.slot 39)]⟩ :: ⟨[10], [], [11], [(.slot 40)]⟩ :: ⟨[11], [], [12], [(.slot 41)]⟩ :: ⟨[0], [], [13], [(.slot 42)]⟩ :: ⟨[13], [], [14], [(.slot 43)]⟩ :: ⟨[14, 13], [], [15], [(.slot 44)]⟩ :: ⟨[15], [], [16], [(.slot 45)]⟩ :: ⟨[12, 16], [], [17], [(.slot 46)]⟩ :: ⟨[0], [], [18], [(.slot 47)]⟩ :: ⟨[18], [], [19], [(.slot 48)]⟩ :: ⟨[19, 18], [], [20], [(.slot 49)]⟩ :: ⟨[20], [], [21], [(.slot 50)]⟩ :: ⟨[21], [], [22], [(.slot 51)]⟩ :: ⟨[0], [], [23], [(.slot 52)]⟩ :: ⟨[23], [], [24], [(.slot 53)]⟩ :: ⟨[24, 23], [], [25], [(.slot 54)]⟩ :: ⟨[25], [], [26], [(.slot 55)]⟩ :: ⟨[22, 26], [], [27], [(.slot 56)]⟩ :: ⟨[0], [], [28], [(.slot 57)]⟩ :: ⟨[28], [], [29], [(.slot 58)]⟩ :: ⟨[29, 28], [], [30], [(.slot 59)]⟩ :: ⟨[30], [], [31], [(.slot 60)]⟩ :: ⟨[0], [], [32], [(.slot 61)]⟩ :: ⟨[2], [], [33], [(.slot 62)]⟩ :: ⟨[32, 33], [], [34], [(.slot 63)]⟩ :: ⟨[34], [], [35], [(.slot 64)]⟩ :: ⟨[7, 17, 27, 31], [35], [36], [(.slot 65)]⟩ :: ⟨[], [], [37], [(.slot 5)]⟩ :: ⟨[], [36, 37], [38], [.cell 5 0, .cell 5 1, .cell 5 2, .cell 5 3, .cell 5 4]⟩ :: [])) (es' := [(_, _), (_, _), (5, .box 24 [.v (.int .i64 v18), .v (.int .i64 v26), .v (.int .i64 v34), .v (.int .i64 v37), .fl (.own 5) 1 (List.map (Value.int .u8) v39)])]) (by kernel_rfl) rfl rfl
        ⟨st_plain rfl (op_move _ _ _ _ rfl rfl),
          st_plain rfl (op_ix _ _ _ _ _ _ _ _ Try.underlying22 sz5 (by decide) rfl rfl rfl (ix_ok hv16).1 (map_lt (ix_ok hv16).2) rfl),
          st_plain rfl (op_load_e _ _ _ _ _ _ Try.underlying5 rfl rfl rfl (map_get hv17)),
          st_plain rfl ((Option.some.inj hv18) ▸ op_conv _ _ _ Try.underlying5 Try.underlying3 rfl),
          st_plain rfl (op_move _ _ _ _ rfl rfl),
          st_plain rfl (op_ix _ _ _ _ _ _ _ _ Try.underlying22 sz5 (by decide) rfl rfl rfl (ix_ok hv19).1 (map_lt (ix_ok hv19).2) rfl),
          st_plain rfl (op_load_e _ _ _ _ _ _ Try.underlying5 rfl rfl rfl (map_get hv20)),
          st_plain rfl ((Option.some.inj hv21) ▸ op_conv _ _ _ Try.underlying5 Try.underlying3 rfl),
          st_plain rfl (op_bin _ _ _ _ _ rfl rfl (shl_ok hv22)),
          st_plain rfl (op_move _ _ _ _ rfl rfl),
          st_plain rfl (op_ix _ _ _ _ _ _ _ _ Try.underlying22 sz5 (by decide) rfl rfl rfl (ix_ok hv23).1 (map_lt (ix_ok hv23).2) rfl),
          st_plain rfl (op_load_e _ _ _ _ _ _ Try.underlying5 rfl rfl rfl (map_get hv24)),
          st_plain rfl ((Option.some.inj hv25) ▸ op_conv _ _ _ Try.underlying5 Try.underlying3 rfl),
          st_plain rfl (op_bin _ _ _ _ _ rfl rfl (ibind (f := Value.int .i64) (Option.some.inj hv26))),
          st_plain rfl (op_move _ _ _ _ rfl rfl),
          st_plain rfl (op_ix _ _ _ _ _ _ _ _ Try.underlying22 sz5 (by decide) rfl rfl rfl (ix_ok hv27).1 (map_lt (ix_ok hv27).2) rfl),
          st_plain rfl (op_load_e _ _ _ _ _ _ Try.underlying5 rfl rfl rfl (map_get hv28)),
          st_plain rfl ((Option.some.inj hv29) ▸ op_conv _ _ _ Try.underlying5 Try.underlying3 rfl),
          st_plain rfl (op_bin _ _ _ _ _ rfl rfl (shl_ok hv30)),
          st_plain rfl (op_move _ _ _ _ rfl rfl),
          st_plain rfl (op_ix _ _ _ _ _ _ _ _ Try.underlying22 sz5 (by decide) rfl rfl rfl (ix_ok hv31).1 (map_lt (ix_ok hv31).2) rfl),
          st_plain rfl (op_load_e _ _ _ _ _ _ Try.underlying5 rfl rfl rfl (map_get hv32)),
          st_plain rfl ((Option.some.inj hv33) ▸ op_conv _ _ _ Try.underlying5 Try.underlying3 rfl),
          st_plain rfl (op_bin _ _ _ _ _ rfl rfl (ibind (f := Value.int .i64) (Option.some.inj hv34))),
          st_plain rfl (op_move _ _ _ _ rfl rfl),
          st_plain rfl (op_ix _ _ _ _ _ _ _ _ Try.underlying22 sz5 (by decide) rfl rfl rfl (ix_ok hv35).1 (map_lt (ix_ok hv35).2) rfl),
          st_plain rfl (op_load_e _ _ _ _ _ _ Try.underlying5 rfl rfl rfl (map_get hv36)),
          st_plain rfl ((Option.some.inj hv37) ▸ op_conv _ _ _ Try.underlying5 Try.underlying3 rfl),
          st_plain rfl (op_move _ _ _ _ rfl rfl),
          st_plain rfl (op_move _ _ _ _ rfl rfl),
          st_plain rfl (op_sl _ _ _ 7 v3 _ Try.underlying22 sz5 rfl rfl ⟨_, rfl⟩ ⟨_, rfl⟩ hv38),
          st_plain rfl (op_call _ _ 11 _ _ rfl Try.call11 rfl (ok_wherrykeep_Twin v38 _ hv39) rfl rfl),
          st_plain rfl (op_build _ _ _ _ [1, 1, 1, 1, 1] _ _ Try.underlying24 zr24 (fs24 _ Try.underlying24) (.copy _ (.copy _ (.copy _ (.copy _ (.take _ _ Src.nil))))) rfl rfl rfl),
          st_plain rfl (op_alloc _ _ zr24),
          st_plain rfl (op_store_take _ _ _ _ _ _ _ _ sz24 rfl rfl rfl (Nat.le_of_ble_eq_true rfl) rfl rfl),
          trivial⟩ ?_
      refine pt_then ?_
      refine ht_seq ?_
      refine ht_seq ?_
      refine ht_joinS h (fun (s44 : Bool) => [(2, .box 24 [.v (.int .i64 0), .v (.int .i64 0), .v (.int .i64 0), .v (.int .i64 0), .v (.slice none 0 0)]), (5, .box 24 [.v (.int .i64 v18), .v (.int .i64 v26), .v (.int .i64 v34), .v (.int .i64 v37), .fl (.own 5) 1 (List.map (Value.int .u8) v39)]), (78, .v (.bool s44))]) ?_ ?_
      · rintro s44 h
        refine pt_then ?_
        refine ht_cond _ rfl (fun hb48 => ?_) (fun hb48 => ?_)
        · have h := cond_t hb48 h
          refine ht_seq ?_
          refine ht_seqR hn (El := [_, _, _, (79, .agg [.v (.int .i64 0), .v (.int .i64 0), .v (.int .i64 0), .v (.int .i64 0), .v (.slice none 0 0)]), (2, .box 24 [.v (.int .i64 0), .v (.int .i64 0), .v (.int .i64 0), .v (.int .i64 0), .v (.slice none 0 0)]), (3, .v (.int .i64 3))]) (init := [0, 1, 2]) (fin := [4, 5]) (sps := [⟨[], [], [3], [(.slot 79)]⟩, ⟨[3], [0], [4], [.cell 2 0, .cell 2 1, .cell 2 2, .cell 2 3, .cell 2 4]⟩, ⟨[], [], [5], [(.slot 3)]⟩]) (es' := [(2, .box 24 [.v (.int .i64 0), .v (.int .i64 0), .v (.int .i64 0), .v (.int .i64 0), .v (.slice none 0 0)]), (3, .v (.int .i64 3))]) (by kernel_rfl) rfl rfl
            ⟨st_plain rfl (op_build _ _ _ _ [1, 1, 1, 1, 1] _ _ Try.underlying24 zr24 (fs24 _ Try.underlying24) Src.nil rfl rfl rfl),
              st_plain rfl (op_store _ _ _ _ _ _ _ _ sz24 rfl rfl rfl rfl (Nat.le_of_ble_eq_true rfl) rfl rfl),
              st_plain rfl (op_assign _ _ _ _ rfl rfl),
              trivial⟩ ?_
          refine pt_then ?_
          refine ht_ret ?_
          refine pt_sub (fs := [(2, .box 24 [.v (.int .i64 0), .v (.int .i64 0), .v (.int .i64 0), .v (.int .i64 0), .fl (.own 5) 1 (List.map (Value.int .u8) [])]), (3, .v (.int .i64 3))]) (.box _ _ (subs_cons (sub_refl _) (subs_cons (sub_refl _) (subs_cons (sub_refl _) (subs_cons (sub_refl _) (subs_cons (sub_nil 5 1) (subs_nil)))))) rfl (.same _ .nil)) ?_
          refine pt_r_then ?_
          obtain rfl := Option.some.inj h
          exact pt_ret hio rfl (.cellA _ _ _ _ Try.underlying24 rfl sz24 (.tmp _ _ .nil)) rfl rfl
        · have h := cond_f hb48 h
          refine ht_skip ?_
          refine pt_then ?_
          refine ht_seq ?_
          refine ht_seqR hn (El := [_, _, _, (80, .agg [.v (.int .i64 v18), .v (.int .i64 v26), .v (.int .i64 v34), .v (.int .i64 v37), .fl (.own 5) 1 (List.map (Value.int .u8) v39)]), (2, .box 24 [.v (.int .i64 v18), .v (.int .i64 v26), .v (.int .i64 v34), .v (.int .i64 v37), .fl (.own 5) 1 (List.map (Value.int .u8) v39)]), (3, .v (.int .i64 0))]) (init := [0, 1, 2]) (fin := [4, 5]) (sps := [⟨[], [1], [3], [(.slot 80)]⟩, ⟨[], [3, 0], [4], [.cell 2 0, .cell 2 1, .cell 2 2, .cell 2 3, .cell 2 4]⟩, ⟨[], [], [5], [(.slot 3)]⟩]) (es' := [(2, .box 24 [.v (.int .i64 v18), .v (.int .i64 v26), .v (.int .i64 v34), .v (.int .i64 v37), .fl (.own 5) 1 (List.map (Value.int .u8) v39)]), (3, .v (.int .i64 0))]) (by kernel_rfl) rfl rfl
            ⟨st_plain rfl (op_loadA_take _ _ _ _ Try.underlying24 rfl sz24 rfl rfl),
              st_plain rfl (op_store_take _ _ _ _ _ _ _ _ sz24 rfl rfl rfl (Nat.le_of_ble_eq_true rfl) rfl rfl),
              st_plain rfl (op_assign _ _ _ _ rfl rfl),
              trivial⟩ ?_
          refine pt_then ?_
          refine ht_ret ?_
          obtain rfl := Option.some.inj h
          exact pt_ret hio rfl (.cellA _ _ _ _ Try.underlying24 rfl sz24 (.tmp _ _ .nil)) rfl rfl
      · intro u45 h hl46 hr47
        obtain ⟨v40, hv40, h⟩ := bind_some h
        obtain ⟨v41, hv41, h⟩ := bind_some h
        obtain ⟨v42, hv42, h⟩ := bind_some h
        refine cond_some h (fun hg7_8 h => ?_) (fun hg7_8 h => ?_)
        · refine ht_anyR (by kernel_rfl) hn (El := (_ :: _ :: _ :: (66, .fl .shr 1 (List.map (Value.int .u8) b)) :: (67, .eref (.slot 66) (v40 * 1)) :: (68, .v (.int .u8 v41)) :: (69, .v (.int .i64 v42)) :: (70, .ptr 5 4) :: (71, .same (.cell 5 4)) :: (72, .v (.int .i64 (v39.length : Int))) :: (73, .v (.bool ((v42 != (v39.length : Int))))) :: (74, .v (.bool true)) :: (75, .v undef) :: (76, .v undef) :: (77, .v undef) :: (78, .v (.bool true)) :: [])) (init := [0, 1, 2]) (fin := [1, 2, 15]) (sps := [⟨[0], [], [3], [(.slot 66)]⟩, ⟨[3], [], [4], [(.slot 67)]⟩, ⟨[4, 3], [], [5], [(.slot 68)]⟩, ⟨[5], [], [6], [(.slot 69)]⟩, ⟨[2], [], [7], [(.slot 70)]⟩, ⟨[7, 2], [], [8], [(.slot 71)]⟩, ⟨[8, 2], [], [9], [(.slot 72)]⟩, ⟨[6, 9], [], [10], [(.slot 73)]⟩, ⟨[10], [], [11], [(.slot 74)]⟩, ⟨[11], [], [12], [(.slot 75)]⟩, ⟨[11], [], [13], [(.slot 76)]⟩, ⟨[11], [], [14], [(.slot 77)]⟩, ⟨[11], [], [15], [(.slot 78)]⟩]) (es' := [(_, _), (_, _), (78, .v (.bool true))]) (by kernel_rfl) rfl rfl
            ⟨st_plain rfl (op_move _ _ _ _ rfl rfl),
              st_plain rfl (op_ix _ _ _ _ _ _ _ _ Try.underlying22 sz5 (by decide) rfl rfl rfl (ix_ok hv40).1 (map_lt (ix_ok hv40).2) rfl),
              st_plain rfl (op_load_e _ _ _ _ _ _ Try.underlying5 rfl rfl rfl (map_get hv41)),
              st_plain rfl ((Option.some.inj hv42) ▸ op_conv _ _ _ Try.underlying5 Try.underlying3 rfl),
              st_plain rfl (op_fieldAddr _ _ _ _ 5 0 _ Try.underlying24 rfl sz22 rfl rfl (by decide)),
              st_plain rfl (op_load _ _ _ _ _ _ Try.underlying22 rfl rfl rfl (Nat.le_of_ble_eq_true rfl) rfl rfl rfl),
              st_plain rfl (op_len_fl _ _ _ Try.underlying22 rfl (by decide) (map_len _)),
              st_plain rfl (op_bin _ _ _ _ _ rfl rfl rfl),
              st_plain rfl (op_move _ _ _ _ (congrArg (fun b => AV.v (Value.bool b)) hg7_8) rfl),
              st_skip 8 74 _ false rfl rfl rfl rfl (List.Mem.head _),
              st_skip 8 74 _ false rfl rfl rfl rfl (List.Mem.head _),
              st_skip 8 74 _ false rfl rfl rfl rfl (List.Mem.head _),
              st_plain rfl (op_pick _ _ true _ rfl rfl),
              trivial⟩ ?_
          exact hl46 _ (Option.some.inj h).symm
        · obtain ⟨v43, hv43, h⟩ := bind_some h
          refine ht_anyR (by kernel_rfl) hn (El := (_ :: _ :: _ :: (66, .fl .shr 1 (List.map (Value.int .u8) b)) :: (67, .eref (.slot 66) (v40 * 1)) :: (68, .v (.int .u8 v41)) :: (69, .v (.int .i64 v42)) :: (70, .ptr 5 4) :: (71, .same (.cell 5 4)) :: (72, .v (.int .i64 (v39.length : Int))) :: (73, .v (.bool ((v42 != (v39.length : Int))))) :: (74, .v (.bool false)) :: (75, .agg [.v (.int .i64 v18), .v (.int .i64 v26), .v (.int .i64 v34), .v (.int .i64 v37), .same (.cell 5 4)]) :: (76, .v (.bool v43)) :: (77, .v (.bool (!v43))) :: (78, .v (.bool (!v43))) :: [])) (init := [0, 1, 2]) (fin := [1, 2, 15]) (sps := [⟨[0], [], [3], [(.slot 66)]⟩, ⟨[3], [], [4], [(.slot 67)]⟩, ⟨[4, 3], [], [5], [(.slot 68)]⟩, ⟨[5], [], [6], [(.slot 69)]⟩, ⟨[2], [], [7], [(.slot 70)]⟩, ⟨[7, 2], [], [8], [(.slot 71)]⟩, ⟨[8, 2], [], [9], [(.slot 72)]⟩, ⟨[6, 9], [], [10], [(.slot 73)]⟩, ⟨[10], [], [11], [(.slot 74)]⟩, ⟨[11, 2], [], [12], [(.slot 75)]⟩, ⟨[11, 12, 2], [], [13], [(.slot 76)]⟩, ⟨[11, 13], [], [14], [(.slot 77)]⟩, ⟨[11, 14], [], [15], [(.slot 78)]⟩]) (es' := [(_, _), (_, _), (78, .v (.bool (!v43)))]) (by kernel_rfl) rfl rfl
            ⟨st_plain rfl (op_move _ _ _ _ rfl rfl),
              st_plain rfl (op_ix _ _ _ _ _ _ _ _ Try.underlying22 sz5 (by decide) rfl rfl rfl (ix_ok hv40).1 (map_lt (ix_ok hv40).2) rfl),
              st_plain rfl (op_load_e _ _ _ _ _ _ Try.underlying5 rfl rfl rfl (map_get hv41)),
              st_plain rfl ((Option.some.inj hv42) ▸ op_conv _ _ _ Try.underlying5 Try.underlying3 rfl),
              st_plain rfl (op_fieldAddr _ _ _ _ 5 0 _ Try.underlying24 rfl sz22 rfl rfl (by decide)),
              st_plain rfl (op_load _ _ _ _ _ _ Try.underlying22 rfl rfl rfl (Nat.le_of_ble_eq_true rfl) rfl rfl rfl),
              st_plain rfl (op_len_fl _ _ _ Try.underlying22 rfl (by decide) (map_len _)),
              st_plain rfl (op_bin _ _ _ _ _ rfl rfl rfl),
              st_plain rfl (op_move _ _ _ _ (congrArg (fun b => AV.v (Value.bool b)) hg7_8) rfl),
              st_run 8 74 false rfl rfl rfl (List.Mem.head _) (op_loadA _ _ _ _ _ _ _ Try.underlying24 rfl sz24 rfl rfl (Nat.le_of_ble_eq_true rfl) rfl rfl),
              st_run 8 74 false rfl rfl rfl (List.Mem.head _) (op_call _ _ 15 _ _ rfl Try.call15 rfl (ok_wherryref18_Frame (T_Frame.mk v18 v26 v34 v37 v39) _ hv43) rfl rfl),
              st_run 8 74 false rfl rfl rfl (List.Mem.head _) (op_un _ _ _ _ rfl rfl),
              st_plain rfl (op_pick _ _ false _ rfl rfl),
              trivial⟩ ?_
          exact hl46 _ (Option.some.inj h).symm

set_option maxHeartbeats 1000000 in
theorem ok_wherryref18_Bytes (f : T_Frame) (r : (List Int)) (h : Sh.wherryref18_Bytes f = some r) : FnOK Try.prog 18 [.agg [.v (.int .i64 f.Kind), .v (.int .i64 f.Number), .v (.int .i64 f.Offset), .v (.int .i64 f.Seq), .fl .shr 1 (List.map (Value.int .u8) f.Data)]] (.fl (.own 5) 1 (List.map (Value.int .u8) r)) := by
  unfold Sh.wherryref18_Bytes at h
  refine fn_ok Try.func18 rfl (Nat.le_of_ble_eq_true rfl) rfl rfl fun g0 hn hio => ?_
  refine ht_seq ?_
  refine ht_seqR hn (El := [_, (1, .box 24 [.v (.int .i64 f.Kind), .v (.int .i64 f.Number), .v (.int .i64 f.Offset), .v (.int .i64 f.Seq), .fl .shr 1 (List.map (Value.int .u8) f.Data)]), (2, .v (.slice none 0 0))]) (init := [0]) (fin := [1]) (sps := [⟨[0], [], [1], [(.slot 1)]⟩, ⟨[], [], [2], [(.slot 2)]⟩]) (es' := [(1, .box 24 [.v (.int .i64 f.Kind), .v (.int .i64 f.Number), .v (.int .i64 f.Offset), .v (.int .i64 f.Seq), .fl .shr 1 (List.map (Value.int .u8) f.Data)])]) (by kernel_rfl) rfl rfl
    ⟨st_plain rfl (op_box _ _ _ _ rfl rfl rfl),
      st_plain rfl (op_assign _ _ _ _ rfl rfl),
      trivial⟩ ?_
  refine pt_then ?_
  refine ht_seq ?_
  obtain ⟨v1, hv1, h⟩ := bind_some h
  obtain ⟨v2, hv2, h⟩ := bind_some h
  obtain ⟨v3, hv3, h⟩ := bind_some h
  obtain ⟨v4, hv4, h⟩ := bind_some h
  obtain ⟨v5, hv5, h⟩ := bind_some h
  obtain ⟨v6, hv6, h⟩ := bind_some h
  obtain ⟨v7, hv7, h⟩ := bind_some h
  obtain ⟨v8, hv8, h⟩ := bind_some h
  obtain ⟨v9, hv9, h⟩ := bind_some h
  refine ht_seqR hn (El := (_ :: (5, .ptr 1 0) :: (6, .v (.int .i64 f.Kind)) :: (7, .v (.int .u8 v1)) :: (8, .ptr 1 1) :: (9, .v (.int .i64 f.Number)) :: (10, .v (.int .i64 v2)) :: (11, .v (.int .u8 v3)) :: (12, .ptr 1 1) :: (13, .v (.int .i64 f.Number)) :: (14, .v (.int .u8 v4)) :: (15, .ptr 1 2) :: (16, .v (.int .i64 f.Offset)) :: (17, .v (.int .i64 v5)) :: (18, .v (.int .u8 v6)) :: (19, .ptr 1 2) :: (20, .v (.int .i64 f.Offset)) :: (21, .v (.int .u8 v7)) :: (22, .ptr 1 3) :: (23, .v (.int .i64 f.Seq)) :: (24, .v (.int .u8 v8)) :: (25, .ptr 1 4) :: (26, .fl .shr 1 (List.map (Value.int .u8) f.Data)) :: (27, .v (.int .i64 (f.Data.length : Int))) :: (28, .v (.int .u8 v9)) :: (29, .fl (.own 5) 1 (List.map (Value.int .u8) [v1, v3, v4, v6, v7, v8, v9])) :: (3, .fl (.own 5) 1 (List.map (Value.int .u8) [v1, v3, v4, v6, v7, v8, v9])) :: [])) (init := [0]) (fin := [0, 26]) (sps := (⟨[0], [], [1], [(.slot 5)]⟩ :: ⟨[1, 0], [], [2], [(.slot 6)]⟩ :: ⟨[2], [], [3], [(.slot 7)]⟩ :: ⟨[0], [], [4], [(.slot 8)]⟩ :: ⟨[4, 0], [], [5], [(.slot 9)]⟩ :: ⟨[5], [], [6], [(.slot 10)]⟩ :: ⟨[6], [], [7], [(.slot 11)]⟩ :: ⟨[0], [], [8], [(.slot 12)]⟩ :: ⟨[8, 0], [], [9], [(.slot 13)]⟩ :: ⟨[9], [], [10], [(.slot 14)]⟩ :: ⟨[0], [], [11], [(.slot 15)]⟩ :: ⟨[11, 0], [], [12], [(.slot 16)]⟩ :: ⟨[12], [], [13], [(.slot 17)]⟩ :: ⟨[13], [], [14], [(.slot 18)]⟩ :: ⟨[0], [], [15], [(.slot 19)]⟩ :: ⟨[15, 0], [], [16], [(.slot 20)]⟩ :: ⟨[16], [], [17], [(.slot 21)]⟩ :: ⟨[0], [], [18], [(.slot 22)]⟩ :: ⟨[18, 0], [], [19], [(.slot 23)]⟩ :: ⟨[19], [], [20], [(.slot 24)]⟩ :: ⟨[0], [], [21], [(.slot 25)]⟩ :: ⟨[21, 0], [], [22], [(.slot 26)]⟩ :: ⟨[22], [], [23], [(.slot 27)]⟩ :: ⟨[23], [], [24], [(.slot 28)]⟩ :: ⟨[3, 7, 10, 14, 17, 20, 24], [], [25], [(.slot 29)]⟩ :: ⟨[], [25], [26], [(.slot 3)]⟩ :: [])) (es' := [(_, _), (3, .fl (.own 5) 1 (List.map (Value.int .u8) [v1, v3, v4, v6, v7, v8, v9]))]) (by kernel_rfl) rfl rfl
    ⟨st_plain rfl (op_fieldAddr _ _ _ _ 1 0 _ Try.underlying24 rfl sz3 rfl rfl (by decide)),
      st_plain rfl (op_load _ _ _ _ _ _ Try.underlying3 rfl rfl rfl (Nat.le_of_ble_eq_true rfl) rfl rfl rfl),
      st_plain rfl ((Option.some.inj hv1) ▸ op_conv _ _ _ Try.underlying3 Try.underlying5 rfl),
      st_plain rfl (op_fieldAddr _ _ _ _ 1 0 _ Try.underlying24 rfl sz3 rfl rfl (by decide)),
      st_plain rfl (op_load _ _ _ _ _ _ Try.underlying3 rfl rfl rfl (Nat.le_of_ble_eq_true rfl) rfl rfl rfl),
      st_plain rfl (op_bin _ _ _ _ _ rfl rfl (shr_ok hv2)),
      st_plain rfl ((Option.some.inj hv3) ▸ op_conv _ _ _ Try.underlying3 Try.underlying5 rfl),
      st_plain rfl (op_fieldAddr _ _ _ _ 1 0 _ Try.underlying24 rfl sz3 rfl rfl (by decide)),
      st_plain rfl (op_load _ _ _ _ _ _ Try.underlying3 rfl rfl rfl (Nat.le_of_ble_eq_true rfl) rfl rfl rfl),
      st_plain rfl ((Option.some.inj hv4) ▸ op_conv _ _ _ Try.underlying3 Try.underlying5 rfl),
      st_plain rfl (op_fieldAddr _ _ _ _ 1 0 _ Try.underlying24 rfl sz3 rfl rfl (by decide)),
      st_plain rfl (op_load _ _ _ _ _ _ Try.underlying3 rfl rfl rfl (Nat.le_of_ble_eq_true rfl) rfl rfl rfl),
      st_plain rfl (op_bin _ _ _ _ _ rfl rfl (shr_ok hv5)),
      st_plain rfl ((Option.some.inj hv6) ▸ op_conv _ _ _ Try.underlying3 Try.underlying5 rfl),
      st_plain rfl (op_fieldAddr _ _ _ _ 1 0 _ Try.underlying24 rfl sz3 rfl rfl (by decide)),
      st_plain rfl (op_load _ _ _ _ _ _ Try.underlying3 rfl rfl rfl (Nat.le_of_ble_eq_true rfl) rfl rfl rfl),
      st_plain rfl ((Option.some.inj hv7) ▸ op_conv _ _ _ Try.underlying3 Try.underlying5 rfl),
      st_plain rfl (op_fieldAddr _ _ _ _ 1 0 _ Try.underlying24 rfl sz3 rfl rfl (by decide)),
      st_plain rfl (op_load _ _ _ _ _ _ Try.underlying3 rfl rfl rfl (Nat.le_of_ble_eq_true rfl) rfl rfl rfl),
      st_plain rfl ((Option.some.inj hv8) ▸ op_conv _ _ _ Try.underlying3 Try.underlying5 rfl),
      st_plain rfl (op_fieldAddr _ _ _ _ 1 0 _ Try.underlying24 rfl sz22 rfl rfl (by decide)),
      st_plain rfl (op_load _ _ _ _ _ _ Try.underlying22 rfl rfl rfl (Nat.le_of_ble_eq_true rfl) rfl rfl rfl),
      st_plain rfl (op_len_fl _ _ _ Try.underlying22 rfl (by decide) (map_len _)),
      st_plain rfl ((Option.some.inj hv9) ▸ op_conv _ _ _ Try.underlying3 Try.underlying5 rfl),
      st_plain rfl (op_buildSlice _ _ 1 (.int .u8 0) (List.map (Value.int .u8) [v1, v3, v4, v6, v7, v8, v9]) [(0, .int .u8 v1), (1, .int .u8 v3), (2, .int .u8 v4), (3, .int .u8 v6), (4, .int .u8 v7), (5, .int .u8 v8), (6, .int .u8 v9)] Try.underlying22 sz5 zr5 (fun _ V w o a hv hes => by have e0 := rd_v hv hes (x := .tmp 7) rfl; have e1 := rd_v hv hes (x := .tmp 11) rfl; have e2 := rd_v hv hes (x := .tmp 14) rfl; have e3 := rd_v hv hes (x := .tmp 18) rfl; have e4 := rd_v hv hes (x := .tmp 21) rfl; have e5 := rd_v hv hes (x := .tmp 24) rfl; have e6 := rd_v hv hes (x := .tmp 28) rfl; simp only [List.map_toArray, List.map_cons, List.map_nil, e0, e1, e2, e3, e4, e5, e6]; try rfl) (litfill (by simp [Instr.fill, Value.cells]; rfl) (by simp [List.range, List.range.loop])) (by simp [Value.oneCell']) rfl (by decide) (by decide) (by decide)),
      st_plain rfl (op_assign_take _ _ _ _ rfl),
      trivial⟩ ?_
  refine pt_then ?_
  refine ht_seq ?_
  obtain ⟨v10, hv10, h⟩ := bind_some h
  refine ht_seqR hn (El := [_, _, (30, .fl (.own 5) 1 (List.map (Value.int .u8) [v1, v3, v4, v6, v7, v8, v9])), (31, .ptr 1 4), (32, .fl .shr 1 (List.map (Value.int .u8) f.Data)), (33, .fl (.own 5) 1 (List.map (Value.int .u8) v10)), (30, .any), (3, .fl (.own 5) 1 (List.map (Value.int .u8) v10))]) (init := [0, 1]) (fin := [7]) (sps := [⟨[], [1], [2], [(.slot 30)]⟩, ⟨[0], [], [3], [(.slot 31)]⟩, ⟨[3, 0], [], [4], [(.slot 32)]⟩, ⟨[4], [2], [6, 5], [(.slot 33)]⟩, ⟨[], [5], [7], [(.slot 3)]⟩]) (es' := [(3, .fl (.own 5) 1 (List.map (Value.int .u8) v10))]) (by kernel_rfl) rfl rfl
    ⟨st_plain rfl (op_move_take _ _ _ _ rfl),
      st_plain rfl (op_fieldAddr _ _ _ _ 1 0 _ Try.underlying24 rfl sz22 rfl rfl (by decide)),
      st_plain rfl (op_load _ _ _ _ _ _ Try.underlying22 rfl rfl rfl (Nat.le_of_ble_eq_true rfl) rfl rfl rfl),
      st_plain rfl (op_app _ _ _ _ _ el22 rfl rfl (map_len _) (map_len _) hv10 ((List.map_append).symm.trans (congrArg (List.map _) (app_eq hv10)))),
      st_plain rfl (op_assign_take _ _ _ _ rfl),
      trivial⟩ ?_
  refine pt_then ?_
  refine ht_seq ?_
  obtain ⟨v11, hv11, h⟩ := bind_some h
  refine ht_seqR hn (El := [_, (34, .same (.slot 3)), (35, .v (.int .i64 v11)), (4, .v (.int .i64 v11))]) (init := [0]) (fin := [0, 3]) (sps := [⟨[0], [], [1], [(.slot 34)]⟩, ⟨[1, 0], [], [2], [(.slot 35)]⟩, ⟨[2], [], [3], [(.slot 4)]⟩]) (es' := [(_, _), (4, .v (.int .i64 v11))]) (by kernel_rfl) rfl rfl
    ⟨st_plain rfl (op_move _ _ _ _ rfl rfl),
      st_plain rfl (op_call _ _ 26 _ _ rfl Try.call26 rfl (ok_wherryref08_Short v10 _ hv11) rfl rfl),
      st_plain rfl (op_assign _ _ _ _ rfl rfl),
      trivial⟩ ?_
  refine pt_then ?_
  refine ht_seq ?_
  obtain ⟨v12, hv12, h⟩ := bind_some h
  obtain ⟨v13, hv13, h⟩ := bind_some h
  obtain ⟨v14, hv14, h⟩ := bind_some h
  obtain ⟨v15, hv15, h⟩ := bind_some h
  refine ht_seqR hn (El := [_, _, (36, .fl (.own 5) 1 (List.map (Value.int .u8) v10)), (37, .v (.int .i64 v11)), (38, .v (.int .u8 v12)), (39, .v (.int .i64 v11)), (40, .v (.int .i64 v13)), (41, .v (.int .u8 v14)), (42, .fl (.own 5) 1 (List.map (Value.int .u8) [v12, v14])), (43, .fl (.own 5) 1 (List.map (Value.int .u8) v15)), (36, .any), (2, .fl (.own 5) 1 (List.map (Value.int .u8) v15))]) (init := [0, 1]) (fin := [11]) (sps := [⟨[], [0], [2], [(.slot 36)]⟩, ⟨[1], [], [3], [(.slot 37)]⟩, ⟨[3], [], [4], [(.slot 38)]⟩, ⟨[1], [], [5], [(.slot 39)]⟩, ⟨[5], [], [6], [(.slot 40)]⟩, ⟨[6], [], [7], [(.slot 41)]⟩, ⟨[4, 7], [], [8], [(.slot 42)]⟩, ⟨[8], [2], [10, 9], [(.slot 43)]⟩, ⟨[], [9], [11], [(.slot 2)]⟩]) (es' := [(2, .fl (.own 5) 1 (List.map (Value.int .u8) v15))]) (by kernel_rfl) rfl rfl
    ⟨st_plain rfl (op_move_take _ _ _ _ rfl),
      st_plain rfl (op_move _ _ _ _ rfl rfl),
      st_plain rfl ((Option.some.inj hv12) ▸ op_conv _ _ _ Try.underlying3 Try.underlying5 rfl),
      st_plain rfl (op_move _ _ _ _ rfl rfl),
      st_plain rfl (op_bin _ _ _ _ _ rfl rfl (shr_ok hv13)),
      st_plain rfl ((Option.some.inj hv14) ▸ op_conv _ _ _ Try.underlying3 Try.underlying5 rfl),
      st_plain rfl (op_buildSlice _ _ 1 (.int .u8 0) (List.map (Value.int .u8) [v12, v14]) [(0, .int .u8 v12), (1, .int .u8 v14)] Try.underlying22 sz5 zr5 (fun _ V w o a hv hes => by have e0 := rd_v hv hes (x := .tmp 38) rfl; have e1 := rd_v hv hes (x := .tmp 41) rfl; simp only [List.map_toArray, List.map_cons, List.map_nil, e0, e1]; try rfl) (litfill (by simp [Instr.fill, Value.cells]; rfl) (by simp [List.range, List.range.loop])) (by simp [Value.oneCell']) rfl (by decide) (by decide) (by decide)),
      st_plain rfl (op_app _ _ _ _ _ el22 rfl rfl (map_len _) (map_len _) hv15 ((List.map_append).symm.trans (congrArg (List.map _) (app_eq hv15)))),
      st_plain rfl (op_assign_take _ _ _ _ rfl),
      trivial⟩ ?_
  refine pt_then ?_
  refine ht_ret ?_
  obtain rfl := Option.some.inj h
  exact pt_ret hio rfl (.tmp _ _ .nil) rfl rfl

set_option maxHeartbeats 1000000 in
theorem ok_frame_Spoil (b : (List Int)) (at_ : Int) (p_bits : Int) (r : (List Int)) (h : Sh.frame_Spoil b at_ p_bits = some r) : FnOK Try.prog 20 [.fl .shr 1 (List.map (Value.int .u8) b), .v (.int .i64 at_), .v (.int .i64 p_bits)] (.fl (.own 5) 1 (List.map (Value.int .u8) r)) := by
  unfold Sh.frame_Spoil at h
  refine fn_ok Try.func20 rfl (Nat.le_of_ble_eq_true rfl) rfl rfl fun g0 hn hio => ?_
  refine ht_seq ?_
  refine ht_seqR hn (El := [_, _, _, (6, .v (.slice none 0 0))]) (init := [0, 1, 2]) (fin := [0, 1, 2]) (sps := [⟨[], [], [3], [(.slot 6)]⟩]) (es' := [(_, _), (_, _), (_, _)]) (by kernel_rfl) rfl rfl
    ⟨st_plain rfl (op_assign _ _ _ _ rfl rfl),
      trivial⟩ ?_
  refine pt_then ?_
  refine ht_seq ?_
  obtain ⟨v1, hv1, h⟩ := bind_some h
  refine ht_seqR hn (El := [_, _, _, (12, .fl .shr 1 (List.map (Value.int .u8) b)), (13, .fl (.own 5) 1 (List.map (Value.int .u8) v1)), (7, .fl (.own 5) 1 (List.map (Value.int .u8) v1))]) (init := [0, 1, 2]) (fin := [1, 2, 5]) (sps := [⟨[0], [], [3], [(.slot 12)]⟩, ⟨[3], [], [4], [(.slot 13)]⟩, ⟨[], [4], [5], [(.slot 7)]⟩]) (es' := [(_, _), (_, _), (7, .fl (.own 5) 1 (List.map (Value.int .u8) v1))]) (by kernel_rfl) rfl rfl
    ⟨st_plain rfl (op_move _ _ _ _ rfl rfl),
      st_plain rfl (op_app_nil _ _ _ _ el22 rfl rfl (map_len _) hv1 (congrArg (List.map _) (app_nil_eq hv1))),
      st_plain rfl (op_assign_take _ _ _ _ rfl),
      trivial⟩ ?_
  refine pt_then ?_
  refine ht_seq ?_
  refine ht_seq ?_
  refine ht_seqR hn (El := [_, _, _, (14, .same (.slot 7)), (15, .v (.int .i64 (v1.length : Int))), (16, .v (.bool (((v1.length : Int) == 0))))]) (init := [0, 1, 2]) (fin := [0, 1, 2, 5]) (sps := [⟨[2], [], [3], [(.slot 14)]⟩, ⟨[3, 2], [], [4], [(.slot 15)]⟩, ⟨[4], [], [5], [(.slot 16)]⟩]) (es' := [(_, _), (_, _), (_, _), (16, .v (.bool (((v1.length : Int) == 0))))]) (by kernel_rfl) rfl rfl
    ⟨st_plain rfl (op_move _ _ _ _ rfl rfl),
      st_plain rfl (op_len_fl _ _ _ Try.underlying22 rfl (by decide) (map_len _)),
      st_plain rfl (op_bin _ _ _ _ _ rfl rfl rfl),
      trivial⟩ ?_
  refine pt_then ?_
  refine ht_cond _ rfl (fun hb2 => ?_) (fun hb2 => ?_)
  · have h := cond_t hb2 h
    refine ht_seq ?_
    refine ht_seqR hn (El := [_, _, _, _, (17, .fl (.own 5) 1 (List.map (Value.int .u8) v1)), (6, .fl (.own 5) 1 (List.map (Value.int .u8) v1))]) (init := [0, 1, 2, 3]) (fin := [5]) (sps := [⟨[], [2], [4], [(.slot 17)]⟩, ⟨[], [4], [5], [(.slot 6)]⟩]) (es' := [(6, .fl (.own 5) 1 (List.map (Value.int .u8) v1))]) (by kernel_rfl) rfl rfl
      ⟨st_plain rfl (op_move_take _ _ _ _ rfl),
        st_plain rfl (op_assign_take _ _ _ _ rfl),
        trivial⟩ ?_
    refine pt_then ?_
    refine ht_ret ?_
    refine pt_r_then ?_
    obtain rfl := Option.some.inj h
    exact pt_ret hio rfl (.tmp _ _ .nil) rfl rfl
  · have h := cond_f hb2 h
    refine ht_skip ?_
    refine pt_then ?_
    refine ht_seq ?_
    obtain ⟨v3, hv3, h⟩ := bind_some h
    obtain ⟨v4, hv4, h⟩ := bind_some h
    refine ht_seqR hn (El := [_, _, _, _, (18, .v (.int .i64 p_bits)), (19, .v (.int .u16 v3)), (20, .v (.int .u16 v4)), (8, .v (.int .u16 v4))]) (init := [0, 1, 2, 3]) (fin := [0, 2, 7]) (sps := [⟨[1], [], [4], [(.slot 18)]⟩, ⟨[4], [], [5], [(.slot 19)]⟩, ⟨[5], [], [6], [(.slot 20)]⟩, ⟨[6], [], [7], [(.slot 8)]⟩]) (es' := [(_, _), (_, _), (8, .v (.int .u16 v4))]) (by kernel_rfl) rfl rfl
      ⟨st_plain rfl (op_move _ _ _ _ rfl rfl),
        st_plain rfl ((Option.some.inj hv3) ▸ op_conv _ _ _ Try.underlying3 Try.underlying49 rfl),
        st_plain rfl (op_bin _ _ _ _ _ rfl rfl (ibind (f := Value.int .u16) (Option.some.inj hv4))),
        st_plain rfl (op_assign _ _ _ _ rfl rfl),
        trivial⟩ ?_
    refine pt_then ?_
    refine ht_seq ?_
    obtain ⟨v5, hv5, h⟩ := bind_some h
    obtain ⟨v6, hv6, h⟩ := bind_some h
    refine ht_seqR hn (El := [_, _, _, (21, .v (.int .i64 at_)), (22, .same (.slot 7)), (23, .v (.int .i64 (v1.length : Int))), (24, .v (.int .i64 v5)), (25, .v (.int .i64 v6)), (9, .v (.int .i64 v6))]) (init := [0, 1, 2]) (fin := [1, 2, 8]) (sps := [⟨[0], [], [3], [(.slot 21)]⟩, ⟨[1], [], [4], [(.slot 22)]⟩, ⟨[4, 1], [], [5], [(.slot 23)]⟩, ⟨[5], [], [6], [(.slot 24)]⟩, ⟨[3, 6], [], [7], [(.slot 25)]⟩, ⟨[7], [], [8], [(.slot 9)]⟩]) (es' := [(_, _), (_, _), (9, .v (.int .i64 v6))]) (by kernel_rfl) rfl rfl
      ⟨st_plain rfl (op_move _ _ _ _ rfl rfl),
        st_plain rfl (op_move _ _ _ _ rfl rfl),
        st_plain rfl (op_len_fl _ _ _ Try.underlying22 rfl (by decide) (map_len _)),
        st_plain rfl (op_bin _ _ _ _ _ rfl rfl (ibind (f := Value.int .i64) (Option.some.inj hv5))),
        st_plain rfl (op_bin _ _ _ _ _ rfl rfl (rem_ok hv6)),
        st_plain rfl (op_assign _ _ _ _ rfl rfl),
        trivial⟩ ?_
    refine pt_then ?_
    refine ht_seq ?_
    refine ht_joinS h (fun (s10 : Int) => [(7, .fl (.own 5) 1 (List.map (Value.int .u8) v1)), (8, .v (.int .u16 v4)), (9, .v (.int .i64 s10))]) ?_ ?_
    · rintro s10 h
      refine pt_then ?_
      refine ht_seq ?_
      refine ht_seq ?_
      refine ht_seqR hn (El := [_, _, _, (33, .v (.int .i64 0))]) (init := [0, 1, 2]) (fin := [0, 1, 2, 3]) (sps := [⟨[], [], [3], [(.slot 33)]⟩]) (es' := [(_, _), (_, _), (_, _), (33, .v (.int .i64 0))]) (by kernel_rfl) rfl rfl
        ⟨st_plain rfl (op_move _ _ _ _ rfl rfl),
          trivial⟩ ?_
      refine pt_then ?_
      refine ht_loopS h (fun ((s60, s61) : (List Int) × Int) => [(7, .fl (.own 5) 1 (List.map (Value.int .u8) s60)), (8, .v (.int .u16 v4)), (9, .v (.int .i64 s10)), (33, .v (.int .i64 s61))]) (fun (s77 : (List Int)) => [(7, .fl (.own 5) 1 (List.map (Value.int .u8) s77))]) ?_ ?_
      · rintro s77 h
        refine pt_then ?_
        refine ht_seq ?_
        refine ht_seqR hn (El := [_, (62, .fl (.own 5) 1 (List.map (Value.int .u8) s77)), (6, .fl (.own 5) 1 (List.map (Value.int .u8) s77))]) (init := [0]) (fin := [2]) (sps := [⟨[], [0], [1], [(.slot 62)]⟩, ⟨[], [1], [2], [(.slot 6)]⟩]) (es' := [(6, .fl (.own 5) 1 (List.map (Value.int .u8) s77))]) (by kernel_rfl) rfl rfl
          ⟨st_plain rfl (op_move_take _ _ _ _ rfl),
            st_plain rfl (op_assign_take _ _ _ _ rfl),
            trivial⟩ ?_
        refine pt_then ?_
        refine ht_ret ?_
        obtain rfl := Option.some.inj h
        exact pt_ret hio rfl (.tmp _ _ .nil) rfl rfl
      · rintro u78 hl79 hr80 ⟨s60, s61⟩ rr83 h ho81
        refine ht_seq ?_
        refine ht_seqR hn (El := [_, _, _, _, (34, .v (.bool ((decide (s61 < 16)))))]) (init := [0, 1, 2, 3]) (fin := [0, 1, 2, 3, 4]) (sps := [⟨[3], [], [4], [(.slot 34)]⟩]) (es' := [(_, _), (_, _), (_, _), (_, _), (34, .v (.bool ((decide (s61 < 16)))))]) (by kernel_rfl) rfl rfl
          ⟨st_plain rfl (op_bin _ _ _ _ _ rfl rfl rfl),
            trivial⟩ ?_
        refine pt_then ?_
        refine ht_seq ?_
        refine ht_cond _ rfl (fun hb84 => ?_) (fun hb84 => ?_)
        · have h := cond_t hb84 h
          refine ht_skip ?_
          refine pt_then ?_
          refine ht_seq ?_
          refine ht_joinS h (fun (s90 : (List Int)) => [(7, .fl (.own 5) 1 (List.map (Value.int .u8) s90)), (8, .v (.int .u16 v4)), (9, .v (.int .i64 s10)), (33, .v (.int .i64 s61))]) ?_ ?_
          · rintro s90 h
            refine pt_then ?_
            obtain ⟨v42, hv42, h⟩ := bind_some h
            refine ht_seqR hn (El := [_, _, _, _, (61, .v (.int .i64 v42)), (33, .v (.int .i64 v42))]) (init := [0, 1, 2, 3]) (fin := [0, 1, 2, 5]) (sps := [⟨[3], [], [4], [(.slot 61)]⟩, ⟨[4], [3], [5], [(.slot 33)]⟩]) (es' := [(_, _), (_, _), (_, _), (33, .v (.int .i64 v42))]) (by kernel_rfl) rfl rfl
              ⟨st_plain rfl (op_bin _ _ _ _ _ rfl rfl (ibind (f := Value.int .i64) (Option.some.inj hv42))),
                st_plain rfl (LOp.drop [_] (op_move _ _ _ _ rfl rfl)),
                trivial⟩ ?_
            exact pt_next _ (Option.some.inj h).symm rfl
          · intro u91 h hl92 hr93
            refine ht_block ?_
            refine ht_seq ?_
            refine ht_seqR hn (El := [_, _, _, _, _, (35, .v (.int .i64 s61)), (10, .v (.int .i64 s61))]) (init := [0, 1, 2, 3, 4]) (fin := [0, 1, 2, 3, 6]) (sps := [⟨[3], [], [5], [(.slot 35)]⟩, ⟨[5], [], [6], [(.slot 10)]⟩]) (es' := [(_, _), (_, _), (_, _), (_, _), (10, .v (.int .i64 s61))]) (by kernel_rfl) rfl rfl
              ⟨st_plain rfl (op_move _ _ _ _ rfl rfl),
                st_plain rfl (op_assign _ _ _ _ rfl rfl),
                trivial⟩ ?_
            refine pt_then ?_
            refine ht_seq ?_
            obtain ⟨v16, hv16, h⟩ := bind_some h
            refine ht_seqR hn (El := [_, _, _, _, _, (36, .v (.int .i64 s10)), (37, .v (.int .i64 s61)), (38, .v (.int .i64 v16)), (11, .v (.int .i64 v16))]) (init := [0, 1, 2, 3, 4]) (fin := [0, 1, 2, 3, 4, 8]) (sps := [⟨[2], [], [5], [(.slot 36)]⟩, ⟨[4], [], [6], [(.slot 37)]⟩, ⟨[5, 6], [], [7], [(.slot 38)]⟩, ⟨[7], [], [8], [(.slot 11)]⟩]) (es' := [(_, _), (_, _), (_, _), (_, _), (_, _), (11, .v (.int .i64 v16))]) (by kernel_rfl) rfl rfl
              ⟨st_plain rfl (op_move _ _ _ _ rfl rfl),
                st_plain rfl (op_move _ _ _ _ rfl rfl),
                st_plain rfl (op_bin _ _ _ _ _ rfl rfl (ibind (f := Value.int .i64) (Option.some.inj hv16))),
                st_plain rfl (op_assign _ _ _ _ rfl rfl),
                trivial⟩ ?_
            refine pt_then ?_
            refine ht_seq ?_
            refine ht_joinS h (fun (s94 : Bool) => [(7, .fl (.own 5) 1 (List.map (Value.int .u8) s60)), (8, .v (.int .u16 v4)), (9, .v (.int .i64 s10)), (33, .v (.int .i64 s61)), (11, .v (.int .i64 v16)), (50, .v (.bool s94))]) ?_ ?_
            · rintro s94 h
              refine pt_then ?_
              refine ht_cond _ rfl (fun hb98 => ?_) (fun hb98 => ?_)
              · have h := cond_t hb98 h
                obtain ⟨v25, hv25, h⟩ := bind_some h
                obtain ⟨v26, hv26, h⟩ := bind_some h
                obtain ⟨v27, hv27, h⟩ := bind_some h
                obtain ⟨v28, hv28, h⟩ := bind_some h
                obtain ⟨v29, hv29, h⟩ := bind_some h
                obtain ⟨v30, hv30, h⟩ := bind_some h
                obtain ⟨v31, hv31, h⟩ := bind_some h
                obtain ⟨v32, hv32, h⟩ := bind_some h
                refine ht_anyR (by kernel_rfl) hn (El := (_ :: _ :: _ :: _ :: _ :: _ :: (51, .same (.slot 7)) :: (52, .v (.int .i64 v16)) :: (53, .v (.int .i64 v25)) :: (54, .eref (.slot 7) (v26 * 1)) :: (55, .v (.int .u8 v27)) :: (56, .v (.int .i64 v16)) :: (57, .v (.int .i64 v28)) :: (58, .v (.int .u8 v29)) :: (59, .v (.int .u8 v30)) :: (60, .eref (.slot 7) (v31 * 1)) :: (7, .fl (.own 5) 1 (List.map (Value.int .u8) v32)) :: [])) (init := [0, 1, 2, 3, 4, 5]) (fin := [16, 1, 2, 3]) (sps := [⟨[0], [], [6], [(.slot 51)]⟩, ⟨[4], [], [7], [(.slot 52)]⟩, ⟨[7], [], [8], [(.slot 53)]⟩, ⟨[6, 0, 8], [], [9], [(.slot 54)]⟩, ⟨[9, 0], [], [10], [(.slot 55)]⟩, ⟨[4], [], [11], [(.slot 56)]⟩, ⟨[11], [], [12], [(.slot 57)]⟩, ⟨[12], [], [13], [(.slot 58)]⟩, ⟨[10, 13], [], [14], [(.slot 59)]⟩, ⟨[6, 0, 8], [], [15], [(.slot 60)]⟩, ⟨[15, 14], [0], [16], []⟩]) (es' := [(7, .fl (.own 5) 1 (List.map (Value.int .u8) v32)), (_, _), (_, _), (_, _)]) (by kernel_rfl) rfl rfl
                  ⟨st_plain rfl (op_move _ _ _ _ rfl rfl),
                    st_plain rfl (op_move _ _ _ _ rfl rfl),
                    st_plain rfl (op_bin _ _ _ _ _ rfl rfl (quo_ok hv25)),
                    st_plain rfl (op_ix _ _ _ _ _ _ _ _ Try.underlying22 sz5 (by decide) rfl rfl rfl (ix_ok hv26).1 (map_lt (ix_ok hv26).2) rfl),
                    st_plain rfl (op_load_e _ _ _ _ _ _ Try.underlying5 rfl rfl rfl (map_get hv27)),
                    st_plain rfl (op_move _ _ _ _ rfl rfl),
                    st_plain rfl (op_bin _ _ _ _ _ rfl rfl (rem_ok hv28)),
                    st_plain rfl (op_bin _ _ _ _ _ rfl rfl (shl_ok hv29)),
                    st_plain rfl (op_bin _ _ _ _ _ rfl rfl (ibind (f := Value.int .u8) (Option.some.inj hv30))),
                    st_plain rfl (op_ix _ _ _ _ _ _ _ _ Try.underlying22 sz5 (by decide) rfl rfl rfl (ix_ok hv31).1 (map_lt (ix_ok hv31).2) rfl),
                    st_plain rfl (op_store_e _ _ _ _ _ _ _ _ sz5 rfl rfl rfl (by decide) (map_lt (ix_ok hv31).2) ((map_set (f := Value.int .u8) _ (ix_ok hv31).2).trans (congrArg (List.map _) (Option.some.inj hv32)))),
                    trivial⟩ ?_
                refine pt_inb ?_
                exact hl92 _ (Option.some.inj h).symm
              · have h := cond_f hb98 h
                refine ht_skip ?_
                refine pt_inb ?_
                refine pt_pick [0, 1, 2, 3] (by kernel_rfl) (es' := [(_, _), (_, _), (_, _), (_, _)]) rfl ?_
                exact hl92 _ (Option.some.inj h).symm
            · intro u95 h hl96 hr97
              obtain ⟨v17, hv17, h⟩ := bind_some h
              refine cond_some h (fun hg12_5 h => ?_) (fun hg12_5 h => ?_)
              · obtain ⟨v18, hv18, h⟩ := bind_some h
                obtain ⟨v19, hv19, h⟩ := bind_some h
                refine ht_seqR hn (El := (_ :: _ :: _ :: _ :: _ :: _ :: (39, .v (.int .i64 v16)) :: (40, .same (.slot 7)) :: (41, .v (.int .i64 (s60.length : Int))) :: (42, .v (.int .i64 v17)) :: (43, .v (.bool ((decide (v16 < v17))))) :: (44, .v (.bool true)) :: (45, .v (.int .u16 v4)) :: (46, .v (.int .i64 s61)) :: (47, .v (.int .u16 v18)) :: (48, .v (.int .u16 v19)) :: (49, .v (.bool (v19 == 1))) :: (50, .v (.bool (v19 == 1))) :: [])) (init := [0, 1, 2, 3, 4, 5]) (fin := [0, 1, 2, 3, 5, 17]) (sps := [⟨[5], [], [6], [(.slot 39)]⟩, ⟨[0], [], [7], [(.slot 40)]⟩, ⟨[7, 0], [], [8], [(.slot 41)]⟩, ⟨[8], [], [9], [(.slot 42)]⟩, ⟨[6, 9], [], [10], [(.slot 43)]⟩, ⟨[10], [], [11], [(.slot 44)]⟩, ⟨[11, 1], [], [12], [(.slot 45)]⟩, ⟨[11, 4], [], [13], [(.slot 46)]⟩, ⟨[11, 12, 13], [], [14], [(.slot 47)]⟩, ⟨[11, 14], [], [15], [(.slot 48)]⟩, ⟨[11, 15], [], [16], [(.slot 49)]⟩, ⟨[11, 16], [], [17], [(.slot 50)]⟩]) (es' := [(_, _), (_, _), (_, _), (_, _), (_, _), (50, .v (.bool (v19 == 1)))]) (by kernel_rfl) rfl rfl
                  ⟨st_plain rfl (op_move _ _ _ _ rfl rfl),
                    st_plain rfl (op_move _ _ _ _ rfl rfl),
                    st_plain rfl (op_len_fl _ _ _ Try.underlying22 rfl (by decide) (map_len _)),
                    st_plain rfl (op_bin _ _ _ _ _ rfl rfl (ibind (f := Value.int .i64) (Option.some.inj hv17))),
                    st_plain rfl (op_bin _ _ _ _ _ rfl rfl rfl),
                    st_plain rfl (op_move _ _ _ _ (congrArg (fun b => AV.v (Value.bool b)) hg12_5) rfl),
                    st_run 5 44 true rfl rfl rfl (List.Mem.head _) (op_move _ _ _ _ rfl rfl),
                    st_run 5 44 true rfl rfl rfl (List.Mem.head _) (op_move _ _ _ _ rfl rfl),
                    st_run 5 44 true rfl rfl rfl (List.Mem.head _) (op_bin _ _ _ _ _ rfl rfl (shr_ok hv18)),
                    st_run 5 44 true rfl rfl rfl (List.Mem.head _) (op_bin _ _ _ _ _ rfl rfl (ibind (f := Value.int .u16) (Option.some.inj hv19))),
                    st_run 5 44 true rfl rfl rfl (List.Mem.head _) (op_bin _ _ _ _ _ rfl rfl rfl),
                    st_plain rfl (op_pick _ _ true _ rfl rfl),
                    trivial⟩ ?_
                exact hl96 _ (Option.some.inj h).symm
              · refine ht_seqR hn (El := (_ :: _ :: _ :: _ :: _ :: _ :: (39, .v (.int .i64 v16)) :: (40, .same (.slot 7)) :: (41, .v (.int .i64 (s60.length : Int))) :: (42, .v (.int .i64 v17)) :: (43, .v (.bool ((decide (v16 < v17))))) :: (44, .v (.bool false)) :: (45, .v undef) :: (46, .v undef) :: (47, .v undef) :: (48, .v undef) :: (49, .v undef) :: (50, .v (.bool false)) :: [])) (init := [0, 1, 2, 3, 4, 5]) (fin := [0, 1, 2, 3, 5, 17]) (sps := [⟨[5], [], [6], [(.slot 39)]⟩, ⟨[0], [], [7], [(.slot 40)]⟩, ⟨[7, 0], [], [8], [(.slot 41)]⟩, ⟨[8], [], [9], [(.slot 42)]⟩, ⟨[6, 9], [], [10], [(.slot 43)]⟩, ⟨[10], [], [11], [(.slot 44)]⟩, ⟨[11], [], [12], [(.slot 45)]⟩, ⟨[11], [], [13], [(.slot 46)]⟩, ⟨[11], [], [14], [(.slot 47)]⟩, ⟨[11], [], [15], [(.slot 48)]⟩, ⟨[11], [], [16], [(.slot 49)]⟩, ⟨[11], [], [17], [(.slot 50)]⟩]) (es' := [(_, _), (_, _), (_, _), (_, _), (_, _), (50, .v (.bool false))]) (by kernel_rfl) rfl rfl
                  ⟨st_plain rfl (op_move _ _ _ _ rfl rfl),
                    st_plain rfl (op_move _ _ _ _ rfl rfl),
                    st_plain rfl (op_len_fl _ _ _ Try.underlying22 rfl (by decide) (map_len _)),
                    st_plain rfl (op_bin _ _ _ _ _ rfl rfl (ibind (f := Value.int .i64) (Option.some.inj hv17))),
                    st_plain rfl (op_bin _ _ _ _ _ rfl rfl rfl),
                    st_plain rfl (op_move _ _ _ _ (congrArg (fun b => AV.v (Value.bool b)) hg12_5) rfl),
                    st_skip 5 44 _ true rfl rfl rfl rfl (List.Mem.head _),
                    st_skip 5 44 _ true rfl rfl rfl rfl (List.Mem.head _),
                    st_skip 5 44 _ true rfl rfl rfl rfl (List.Mem.head _),
                    st_skip 5 44 _ true rfl rfl rfl rfl (List.Mem.head _),
                    st_skip 5 44 _ true rfl rfl rfl rfl (List.Mem.head _),
                    st_plain rfl (op_pick _ _ false _ rfl rfl),
                    trivial⟩ ?_
                exact hl96 _ (Option.some.inj h).symm
        · have h := cond_f hb84 h
          refine ht_exit ?_
          refine pt_x_then ?_
          refine pt_x_then ?_
          refine pt_x_in ?_
          refine pt_pick [0] (by kernel_rfl) (es' := [(_, _)]) rfl ?_
          exact hl79 _ (ho81 _ (Option.some.inj h).symm).symm
    · intro u11 h hl12 hr13
      refine ht_seq ?_
      refine ht_seqR hn (El := [_, _, _, (26, .v (.int .i64 v6)), (27, .v (.bool ((decide (v6 < 0)))))]) (init := [0, 1, 2]) (fin := [0, 1, 2, 4]) (sps := [⟨[2], [], [3], [(.slot 26)]⟩, ⟨[3], [], [4], [(.slot 27)]⟩]) (es' := [(_, _), (_, _), (_, _), (27, .v (.bool ((decide (v6 < 0)))))]) (by kernel_rfl) rfl rfl
        ⟨st_plain rfl (op_move _ _ _ _ rfl rfl),
          st_plain rfl (op_bin _ _ _ _ _ rfl rfl rfl),
          trivial⟩ ?_
      refine pt_then ?_
      refine ht_cond _ rfl (fun hb14 => ?_) (fun hb14 => ?_)
      · have h := cond_t hb14 h
        obtain ⟨v8, hv8, h⟩ := bind_some h
        obtain ⟨v9, hv9, h⟩ := bind_some h
        refine ht_seqR hn (El := [_, _, _, _, (28, .v (.int .i64 v6)), (29, .same (.slot 7)), (30, .v (.int .i64 (v1.length : Int))), (31, .v (.int .i64 v8)), (32, .v (.int .i64 v9)), (9, .v (.int .i64 v9))]) (init := [0, 1, 2, 3]) (fin := [0, 1, 9]) (sps := [⟨[2], [], [4], [(.slot 28)]⟩, ⟨[0], [], [5], [(.slot 29)]⟩, ⟨[5, 0], [], [6], [(.slot 30)]⟩, ⟨[6], [], [7], [(.slot 31)]⟩, ⟨[4, 7], [], [8], [(.slot 32)]⟩, ⟨[8], [2], [9], [(.slot 9)]⟩]) (es' := [(_, _), (_, _), (9, .v (.int .i64 v9))]) (by kernel_rfl) rfl rfl
          ⟨st_plain rfl (op_move _ _ _ _ rfl rfl),
            st_plain rfl (op_move _ _ _ _ rfl rfl),
            st_plain rfl (op_len_fl _ _ _ Try.underlying22 rfl (by decide) (map_len _)),
            st_plain rfl (op_bin _ _ _ _ _ rfl rfl (ibind (f := Value.int .i64) (Option.some.inj hv8))),
            st_plain rfl (op_bin _ _ _ _ _ rfl rfl (ibind (f := Value.int .i64) (Option.some.inj hv9))),
            st_plain rfl (LOp.drop [_] (op_assign _ _ _ _ rfl rfl)),
            trivial⟩ ?_
        exact hl12 _ (Option.some.inj h).symm
      · have h := cond_f hb14 h
        refine ht_skip ?_
        refine pt_pick [0, 1, 2] (by kernel_rfl) (es' := [(_, _), (_, _), (_, _)]) rfl ?_
        exact hl12 _ (Option.some.inj h).symm

set_option maxHeartbeats 1000000 in
theorem ok_wherryref18_Spoil (b : (List Int)) (at_ : Int) (p_bits : Int) (r : (List Int)) (h : Sh.wherryref18_Spoil b at_ p_bits = some r) : FnOK Try.prog 21 [.fl .shr 1 (List.map (Value.int .u8) b), .v (.int .i64 at_), .v (.int .i64 p_bits)] (.fl (.own 5) 1 (List.map (Value.int .u8) r)) := by
  unfold Sh.wherryref18_Spoil at h
  refine fn_ok Try.func21 rfl (Nat.le_of_ble_eq_true rfl) rfl rfl fun g0 hn hio => ?_
  refine ht_seq ?_
  refine ht_seqR hn (El := [_, _, _, (6, .v (.slice none 0 0))]) (init := [0, 1, 2]) (fin := [0, 1, 2]) (sps := [⟨[], [], [3], [(.slot 6)]⟩]) (es' := [(_, _), (_, _), (_, _)]) (by kernel_rfl) rfl rfl
    ⟨st_plain rfl (op_assign _ _ _ _ rfl rfl),
      trivial⟩ ?_
  refine pt_then ?_
  refine ht_seq ?_
  obtain ⟨v1, hv1, h⟩ := bind_some h
  refine ht_seqR hn (El := [_, _, _, (10, .fl .shr 1 (List.map (Value.int .u8) b)), (11, .fl (.own 5) 1 (List.map (Value.int .u8) v1)), (7, .fl (.own 5) 1 (List.map (Value.int .u8) v1))]) (init := [0, 1, 2]) (fin := [0, 1, 2, 5]) (sps := [⟨[0], [], [3], [(.slot 10)]⟩, ⟨[3], [], [4], [(.slot 11)]⟩, ⟨[], [4], [5], [(.slot 7)]⟩]) (es' := [(_, _), (_, _), (_, _), (7, .fl (.own 5) 1 (List.map (Value.int .u8) v1))]) (by kernel_rfl) rfl rfl
    ⟨st_plain rfl (op_move _ _ _ _ rfl rfl),
      st_plain rfl (op_call _ _ 11 _ _ rfl Try.call11 rfl (ok_wherrykeep_Twin b _ hv1) rfl rfl),
      st_plain rfl (op_assign_take _ _ _ _ rfl),
      trivial⟩ ?_
  refine pt_then ?_
  refine ht_seq ?_
  refine ht_seq ?_
  refine ht_seqR hn (El := [_, _, _, _, (12, .fl .shr 1 (List.map (Value.int .u8) b)), (13, .v (.int .i64 (b.length : Int))), (14, .v (.bool (((b.length : Int) == 0))))]) (init := [0, 1, 2, 3]) (fin := [0, 1, 2, 3, 6]) (sps := [⟨[0], [], [4], [(.slot 12)]⟩, ⟨[4], [], [5], [(.slot 13)]⟩, ⟨[5], [], [6], [(.slot 14)]⟩]) (es' := [(_, _), (_, _), (_, _), (_, _), (14, .v (.bool (((b.length : Int) == 0))))]) (by kernel_rfl) rfl rfl
    ⟨st_plain rfl (op_move _ _ _ _ rfl rfl),
      st_plain rfl (op_len_fl _ _ _ Try.underlying22 rfl (by decide) (map_len _)),
      st_plain rfl (op_bin _ _ _ _ _ rfl rfl rfl),
      trivial⟩ ?_
  refine pt_then ?_
  refine ht_cond _ rfl (fun hb2 => ?_) (fun hb2 => ?_)
  · have h := cond_t hb2 h
    refine ht_seq ?_
    refine ht_seqR hn (El := [_, _, _, _, _, (15, .fl (.own 5) 1 (List.map (Value.int .u8) v1)), (6, .fl (.own 5) 1 (List.map (Value.int .u8) v1))]) (init := [0, 1, 2, 3, 4]) (fin := [6]) (sps := [⟨[], [3], [5], [(.slot 15)]⟩, ⟨[], [5], [6], [(.slot 6)]⟩]) (es' := [(6, .fl (.own 5) 1 (List.map (Value.int .u8) v1))]) (by kernel_rfl) rfl rfl
      ⟨st_plain rfl (op_move_take _ _ _ _ rfl),
        st_plain rfl (op_assign_take _ _ _ _ rfl),
        trivial⟩ ?_
    refine pt_then ?_
    refine ht_ret ?_
    refine pt_r_then ?_
    obtain rfl := Option.some.inj h
    exact pt_ret hio rfl (.tmp _ _ .nil) rfl rfl
  · have h := cond_f hb2 h
    refine ht_skip ?_
    refine pt_then ?_
    refine ht_seq ?_
    obtain ⟨v3, hv3, h⟩ := bind_some h
    refine ht_seqR hn (El := [_, _, _, _, _, (16, .fl .shr 1 (List.map (Value.int .u8) b)), (17, .v (.int .i64 (b.length : Int))), (18, .v (.int .i64 v3)), (8, .v (.int .i64 v3))]) (init := [0, 1, 2, 3, 4]) (fin := [1, 2, 3, 8]) (sps := [⟨[0], [], [5], [(.slot 16)]⟩, ⟨[5], [], [6], [(.slot 17)]⟩, ⟨[6], [], [7], [(.slot 18)]⟩, ⟨[7], [], [8], [(.slot 8)]⟩]) (es' := [(_, _), (_, _), (_, _), (8, .v (.int .i64 v3))]) (by kernel_rfl) rfl rfl
      ⟨st_plain rfl (op_move _ _ _ _ rfl rfl),
        st_plain rfl (op_len_fl _ _ _ Try.underlying22 rfl (by decide) (map_len _)),
        st_plain rfl (op_bin _ _ _ _ _ rfl rfl (ibind (f := Value.int .i64) (Option.some.inj hv3))),
        st_plain rfl (op_assign _ _ _ _ rfl rfl),
        trivial⟩ ?_
    refine pt_then ?_
    refine ht_seq ?_
    obtain ⟨v4, hv4, h⟩ := bind_some h
    obtain ⟨v5, hv5, h⟩ := bind_some h
    obtain ⟨v6, hv6, h⟩ := bind_some h
    refine ht_seqR hn (El := [_, _, _, _, (19, .v (.int .i64 at_)), (20, .v (.int .i64 v3)), (21, .v (.int .i64 v4)), (22, .v (.int .i64 v3)), (23, .v (.int .i64 v5)), (24, .v (.int .i64 v3)), (25, .v (.int .i64 v6)), (1, .v (.int .i64 v6))]) (init := [0, 1, 2, 3]) (fin := [1, 2, 3, 11]) (sps := [⟨[0], [], [4], [(.slot 19)]⟩, ⟨[3], [], [5], [(.slot 20)]⟩, ⟨[4, 5], [], [6], [(.slot 21)]⟩, ⟨[3], [], [7], [(.slot 22)]⟩, ⟨[6, 7], [], [8], [(.slot 23)]⟩, ⟨[3], [], [9], [(.slot 24)]⟩, ⟨[8, 9], [], [10], [(.slot 25)]⟩, ⟨[10], [0], [11], [(.slot 1)]⟩]) (es' := [(_, _), (_, _), (_, _), (1, .v (.int .i64 v6))]) (by kernel_rfl) rfl rfl
      ⟨st_plain rfl (op_move _ _ _ _ rfl rfl),
        st_plain rfl (op_move _ _ _ _ rfl rfl),
        st_plain rfl (op_bin _ _ _ _ _ rfl rfl (rem_ok hv4)),
        st_plain rfl (op_move _ _ _ _ rfl rfl),
        st_plain rfl (op_bin _ _ _ _ _ rfl rfl (ibind (f := Value.int .i64) (Option.some.inj hv5))),
        st_plain rfl (op_move _ _ _ _ rfl rfl),
        st_plain rfl (op_bin _ _ _ _ _ rfl rfl (rem_ok hv6)),
        st_plain rfl (LOp.drop [_] (op_assign _ _ _ _ rfl rfl)),
        trivial⟩ ?_
    refine pt_then ?_
    refine ht_seq ?_
    obtain ⟨v7, hv7, h⟩ := bind_some h
    obtain ⟨v8, hv8, h⟩ := bind_some h
    obtain ⟨v9, hv9, h⟩ := bind_some h
    obtain ⟨v10, hv10, h⟩ := bind_some h
    refine ht_seqR hn (El := [_, _, _, _, (26, .v (.int .i64 p_bits)), (27, .v (.int .i64 v7)), (28, .v (.int .i64 v8)), (29, .v (.int .i64 v9)), (30, .v (.int .i64 v10)), (2, .v (.int .i64 v10))]) (init := [0, 1, 2, 3]) (fin := [1, 2, 3, 9]) (sps := [⟨[0], [], [4], [(.slot 26)]⟩, ⟨[4], [], [5], [(.slot 27)]⟩, ⟨[5], [], [6], [(.slot 28)]⟩, ⟨[6], [], [7], [(.slot 29)]⟩, ⟨[7], [], [8], [(.slot 30)]⟩, ⟨[8], [0], [9], [(.slot 2)]⟩]) (es' := [(_, _), (_, _), (_, _), (2, .v (.int .i64 v10))]) (by kernel_rfl) rfl rfl
      ⟨st_plain rfl (op_move _ _ _ _ rfl rfl),
        st_plain rfl (op_bin _ _ _ _ _ rfl rfl (rem_ok hv7)),
        st_plain rfl (op_bin _ _ _ _ _ rfl rfl (ibind (f := Value.int .i64) (Option.some.inj hv8))),
        st_plain rfl (op_bin _ _ _ _ _ rfl rfl (rem_ok hv9)),
        st_plain rfl (op_bin _ _ _ _ _ rfl rfl (ibind (f := Value.int .i64) (Option.some.inj hv10))),
        st_plain rfl (LOp.drop [_] (op_assign _ _ _ _ rfl rfl)),
        trivial⟩ ?_
    refine pt_then ?_
    refine ht_seq ?_
    refine ht_seq ?_
    refine ht_seqR hn (El := [_, _, _, _, (9, .v (.int .i64 0))]) (init := [0, 1, 2, 3]) (fin := [0, 1, 2, 3, 4]) (sps := [⟨[], [], [4], [(.slot 9)]⟩]) (es' := [(_, _), (_, _), (_, _), (_, _), (9, .v (.int .i64 0))]) (by kernel_rfl) rfl rfl
      ⟨st_plain rfl (op_assign _ _ _ _ rfl rfl),
        trivial⟩ ?_
    refine pt_then ?_
    refine ht_loopS h (fun ((s53, s54) : (List Int) × Int) => [(7, .fl (.own 5) 1 (List.map (Value.int .u8) s53)), (8, .v (.int .i64 v3)), (1, .v (.int .i64 v6)), (2, .v (.int .i64 v10)), (9, .v (.int .i64 s54))]) (fun (s66 : (List Int)) => [(7, .fl (.own 5) 1 (List.map (Value.int .u8) s66))]) ?_ ?_
    · rintro s66 h
      refine pt_then ?_
      refine ht_seq ?_
      refine ht_seqR hn (El := [_, (68, .fl (.own 5) 1 (List.map (Value.int .u8) s66)), (6, .fl (.own 5) 1 (List.map (Value.int .u8) s66))]) (init := [0]) (fin := [2]) (sps := [⟨[], [0], [1], [(.slot 68)]⟩, ⟨[], [1], [2], [(.slot 6)]⟩]) (es' := [(6, .fl (.own 5) 1 (List.map (Value.int .u8) s66))]) (by kernel_rfl) rfl rfl
        ⟨st_plain rfl (op_move_take _ _ _ _ rfl),
          st_plain rfl (op_assign_take _ _ _ _ rfl),
          trivial⟩ ?_
      refine pt_then ?_
      refine ht_ret ?_
      obtain rfl := Option.some.inj h
      exact pt_ret hio rfl (.tmp _ _ .nil) rfl rfl
    · rintro u67 hl68 hr69 ⟨s53, s54⟩ rr72 h ho70
      refine ht_seq ?_
      refine ht_seq ?_
      refine ht_joinS h (fun (s73 : Bool) => [(7, .fl (.own 5) 1 (List.map (Value.int .u8) s53)), (8, .v (.int .i64 v3)), (1, .v (.int .i64 v6)), (2, .v (.int .i64 v10)), (9, .v (.int .i64 s54)), (39, .v (.bool s73))]) ?_ ?_
      · rintro s73 h
        refine pt_then ?_
        refine ht_cond _ rfl (fun hb77 => ?_) (fun hb77 => ?_)
        · have h := cond_t hb77 h
          refine ht_skip ?_
          refine pt_then ?_
          refine ht_seq ?_
          refine ht_joinS h (fun (s79 : (List Int)) => [(7, .fl (.own 5) 1 (List.map (Value.int .u8) s79)), (8, .v (.int .i64 v3)), (1, .v (.int .i64 v6)), (2, .v (.int .i64 v10)), (9, .v (.int .i64 s54))]) ?_ ?_
          · rintro s79 h
            refine pt_then ?_
            obtain ⟨v39, hv39, h⟩ := bind_some h
            refine ht_seqR hn (El := [_, _, _, _, _, (40, .v (.int .i64 s54)), (41, .v (.int .i64 v39)), (9, .v (.int .i64 v39))]) (init := [0, 1, 2, 3, 4]) (fin := [0, 1, 2, 3, 7]) (sps := [⟨[4], [], [5], [(.slot 40)]⟩, ⟨[5], [], [6], [(.slot 41)]⟩, ⟨[6], [4], [7], [(.slot 9)]⟩]) (es' := [(_, _), (_, _), (_, _), (_, _), (9, .v (.int .i64 v39))]) (by kernel_rfl) rfl rfl
              ⟨st_plain rfl (op_move _ _ _ _ rfl rfl),
                st_plain rfl (op_bin _ _ _ _ _ rfl rfl (ibind (f := Value.int .i64) (Option.some.inj hv39))),
                st_plain rfl (LOp.drop [_] (op_assign _ _ _ _ rfl rfl)),
                trivial⟩ ?_
            exact pt_next _ (Option.some.inj h).symm rfl
          · intro u80 h hl81 hr82
            refine ht_block ?_
            refine ht_seq ?_
            obtain ⟨v17, hv17, h⟩ := bind_some h
            obtain ⟨v18, hv18, h⟩ := bind_some h
            obtain ⟨v19, hv19, h⟩ := bind_some h
            refine ht_seqR hn (El := [_, _, _, _, _, _, (42, .v (.int .i64 v10)), (43, .v (.int .i64 s54)), (44, .v (.int .u64 v17)), (45, .v (.int .i64 v18)), (46, .v (.int .i64 v19)), (47, .v (.bool (v19 == 1)))]) (init := [0, 1, 2, 3, 4, 5]) (fin := [0, 1, 2, 3, 4, 11]) (sps := [⟨[3], [], [6], [(.slot 42)]⟩, ⟨[4], [], [7], [(.slot 43)]⟩, ⟨[7], [], [8], [(.slot 44)]⟩, ⟨[6, 8], [], [9], [(.slot 45)]⟩, ⟨[9], [], [10], [(.slot 46)]⟩, ⟨[10], [], [11], [(.slot 47)]⟩]) (es' := [(_, _), (_, _), (_, _), (_, _), (_, _), (47, .v (.bool (v19 == 1)))]) (by kernel_rfl) rfl rfl
              ⟨st_plain rfl (op_move _ _ _ _ rfl rfl),
                st_plain rfl (op_move _ _ _ _ rfl rfl),
                st_plain rfl ((Option.some.inj hv17) ▸ op_conv _ _ _ Try.underlying3 Try.underlying43 rfl),
                st_plain rfl (op_bin _ _ _ _ _ rfl rfl (shr_ok hv18)),
                st_plain rfl (op_bin _ _ _ _ _ rfl rfl (ibind (f := Value.int .i64) (Option.some.inj hv19))),
                st_plain rfl (op_bin _ _ _ _ _ rfl rfl rfl),
                trivial⟩ ?_
            refine pt_then ?_
            refine ht_cond _ rfl (fun hb83 => ?_) (fun hb83 => ?_)
            · have h := cond_t hb83 h
              obtain ⟨v21, hv21, h⟩ := bind_some h
              obtain ⟨v22, hv22, h⟩ := bind_some h
              obtain ⟨v23, hv23, h⟩ := bind_some h
              obtain ⟨v24, hv24, h⟩ := bind_some h
              obtain ⟨v25, hv25, h⟩ := bind_some h
              obtain ⟨v26, hv26, h⟩ := bind_some h
              obtain ⟨v27, hv27, h⟩ := bind_some h
              obtain ⟨v28, hv28, h⟩ := bind_some h
              obtain ⟨v29, hv29, h⟩ := bind_some h
              obtain ⟨v30, hv30, h⟩ := bind_some h
              obtain ⟨v31, hv31, h⟩ := bind_some h
              obtain ⟨v32, hv32, h⟩ := bind_some h
              obtain ⟨v33, hv33, h⟩ := bind_some h
              refine ht_seqR hn (El := (_ :: _ :: _ :: _ :: _ :: _ :: (48, .same (.slot 7)) :: (49, .v (.int .i64 v6)) :: (50, .v (.int .i64 s54)) :: (51, .v (.int .i64 v21)) :: (52, .v (.int .i64 v22)) :: (53, .same (.slot 7)) :: (54, .v (.int .i64 v6)) :: (55, .v (.int .i64 s54)) :: (56, .v (.int .i64 v23)) :: (57, .v (.int .i64 v24)) :: (58, .eref (.slot 7) (v25 * 1)) :: (59, .v (.int .u8 v26)) :: (60, .v (.int .i64 v6)) :: (61, .v (.int .i64 s54)) :: (62, .v (.int .i64 v27)) :: (63, .v (.int .i64 v28)) :: (64, .v (.int .u64 v29)) :: (65, .v (.int .u8 v30)) :: (66, .v (.int .u8 v31)) :: (67, .eref (.slot 7) (v32 * 1)) :: (7, .fl (.own 5) 1 (List.map (Value.int .u8) v33)) :: [])) (init := [0, 1, 2, 3, 4, 5]) (fin := [26, 1, 2, 3, 4]) (sps := (⟨[0], [], [6], [(.slot 48)]⟩ :: ⟨[2], [], [7], [(.slot 49)]⟩ :: ⟨[4], [], [8], [(.slot 50)]⟩ :: ⟨[7, 8], [], [9], [(.slot 51)]⟩ :: ⟨[9], [], [10], [(.slot 52)]⟩ :: ⟨[0], [], [11], [(.slot 53)]⟩ :: ⟨[2], [], [12], [(.slot 54)]⟩ :: ⟨[4], [], [13], [(.slot 55)]⟩ :: ⟨[12, 13], [], [14], [(.slot 56)]⟩ :: ⟨[14], [], [15], [(.slot 57)]⟩ :: ⟨[11, 0, 15], [], [16], [(.slot 58)]⟩ :: ⟨[16, 0], [], [17], [(.slot 59)]⟩ :: ⟨[2], [], [18], [(.slot 60)]⟩ :: ⟨[4], [], [19], [(.slot 61)]⟩ :: ⟨[18, 19], [], [20], [(.slot 62)]⟩ :: ⟨[20], [], [21], [(.slot 63)]⟩ :: ⟨[21], [], [22], [(.slot 64)]⟩ :: ⟨[22], [], [23], [(.slot 65)]⟩ :: ⟨[17, 23], [], [24], [(.slot 66)]⟩ :: ⟨[6, 0, 10], [], [25], [(.slot 67)]⟩ :: ⟨[25, 24], [0], [26], []⟩ :: [])) (es' := [(7, .fl (.own 5) 1 (List.map (Value.int .u8) v33)), (_, _), (_, _), (_, _), (_, _)]) (by kernel_rfl) rfl rfl
                ⟨st_plain rfl (op_move _ _ _ _ rfl rfl),
                  st_plain rfl (op_move _ _ _ _ rfl rfl),
                  st_plain rfl (op_move _ _ _ _ rfl rfl),
                  st_plain rfl (op_bin _ _ _ _ _ rfl rfl (ibind (f := Value.int .i64) (Option.some.inj hv21))),
                  st_plain rfl (op_bin _ _ _ _ _ rfl rfl (quo_ok hv22)),
                  st_plain rfl (op_move _ _ _ _ rfl rfl),
                  st_plain rfl (op_move _ _ _ _ rfl rfl),
                  st_plain rfl (op_move _ _ _ _ rfl rfl),
                  st_plain rfl (op_bin _ _ _ _ _ rfl rfl (ibind (f := Value.int .i64) (Option.some.inj hv23))),
                  st_plain rfl (op_bin _ _ _ _ _ rfl rfl (quo_ok hv24)),
                  st_plain rfl (op_ix _ _ _ _ _ _ _ _ Try.underlying22 sz5 (by decide) rfl rfl rfl (ix_ok hv25).1 (map_lt (ix_ok hv25).2) rfl),
                  st_plain rfl (op_load_e _ _ _ _ _ _ Try.underlying5 rfl rfl rfl (map_get hv26)),
                  st_plain rfl (op_move _ _ _ _ rfl rfl),
                  st_plain rfl (op_move _ _ _ _ rfl rfl),
                  st_plain rfl (op_bin _ _ _ _ _ rfl rfl (ibind (f := Value.int .i64) (Option.some.inj hv27))),
                  st_plain rfl (op_bin _ _ _ _ _ rfl rfl (rem_ok hv28)),
                  st_plain rfl ((Option.some.inj hv29) ▸ op_conv _ _ _ Try.underlying3 Try.underlying43 rfl),
                  st_plain rfl (op_bin _ _ _ _ _ rfl rfl (shl_ok hv30)),
                  st_plain rfl (op_bin _ _ _ _ _ rfl rfl (ibind (f := Value.int .u8) (Option.some.inj hv31))),
                  st_plain rfl (op_ix _ _ _ _ _ _ _ _ Try.underlying22 sz5 (by decide) rfl rfl rfl (ix_ok hv32).1 (map_lt (ix_ok hv32).2) rfl),
                  st_plain rfl (op_store_e _ _ _ _ _ _ _ _ sz5 rfl rfl rfl (by decide) (map_lt (ix_ok hv32).2) ((map_set (f := Value.int .u8) _ (ix_ok hv32).2).trans (congrArg (List.map _) (Option.some.inj hv33)))),
                  trivial⟩ ?_
              refine pt_inb ?_
              exact hl81 _ (Option.some.inj h).symm
            · have h := cond_f hb83 h
              refine ht_skip ?_
              refine pt_inb ?_
              refine pt_pick [0, 1, 2, 3, 4] (by kernel_rfl) (es' := [(_, _), (_, _), (_, _), (_, _), (_, _)]) rfl ?_
              exact hl81 _ (Option.some.inj h).symm
        · have h := cond_f hb77 h
          refine ht_exit ?_
          refine pt_x_then ?_
          refine pt_x_then ?_
          refine pt_x_in ?_
          refine pt_pick [0] (by kernel_rfl) (es' := [(_, _)]) rfl ?_
          exact hl68 _ (ho70 _ (Option.some.inj h).symm).symm
      · intro u74 h hl75 hr76
        refine cond_some h (fun hg8_2 h => ?_) (fun hg8_2 h => ?_)
        · obtain ⟨v11, hv11, h⟩ := bind_some h
          refine ht_seqR hn (El := [_, _, _, _, _, (31, .v (.int .i64 s54)), (32, .v (.bool ((decide (s54 < 16))))), (33, .v (.bool true)), (34, .v (.int .i64 v6)), (35, .v (.int .i64 s54)), (36, .v (.int .i64 v11)), (37, .v (.int .i64 v3)), (38, .v (.bool ((decide (v11 < v3))))), (39, .v (.bool ((decide (v11 < v3)))))]) (init := [0, 1, 2, 3, 4]) (fin := [0, 1, 2, 3, 4, 13]) (sps := [⟨[4], [], [5], [(.slot 31)]⟩, ⟨[5], [], [6], [(.slot 32)]⟩, ⟨[6], [], [7], [(.slot 33)]⟩, ⟨[7, 2], [], [8], [(.slot 34)]⟩, ⟨[7, 4], [], [9], [(.slot 35)]⟩, ⟨[7, 8, 9], [], [10], [(.slot 36)]⟩, ⟨[7, 1], [], [11], [(.slot 37)]⟩, ⟨[7, 10, 11], [], [12], [(.slot 38)]⟩, ⟨[7, 12], [], [13], [(.slot 39)]⟩]) (es' := [(_, _), (_, _), (_, _), (_, _), (_, _), (39, .v (.bool ((decide (v11 < v3)))))]) (by kernel_rfl) rfl rfl
            ⟨st_plain rfl (op_move _ _ _ _ rfl rfl),
              st_plain rfl (op_bin _ _ _ _ _ rfl rfl rfl),
              st_plain rfl (op_move _ _ _ _ (congrArg (fun b => AV.v (Value.bool b)) hg8_2) rfl),
              st_run 2 33 true rfl rfl rfl (List.Mem.head _) (op_move _ _ _ _ rfl rfl),
              st_run 2 33 true rfl rfl rfl (List.Mem.head _) (op_move _ _ _ _ rfl rfl),
              st_run 2 33 true rfl rfl rfl (List.Mem.head _) (op_bin _ _ _ _ _ rfl rfl (ibind (f := Value.int .i64) (Option.some.inj hv11))),
              st_run 2 33 true rfl rfl rfl (List.Mem.head _) (op_move _ _ _ _ rfl rfl),
              st_run 2 33 true rfl rfl rfl (List.Mem.head _) (op_bin _ _ _ _ _ rfl rfl rfl),
              st_plain rfl (op_pick _ _ true _ rfl rfl),
              trivial⟩ ?_
          exact hl75 _ (Option.some.inj h).symm
        · refine ht_seqR hn (El := [_, _, _, _, _, (31, .v (.int .i64 s54)), (32, .v (.bool ((decide (s54 < 16))))), (33, .v (.bool false)), (34, .v undef), (35, .v undef), (36, .v undef), (37, .v undef), (38, .v undef), (39, .v (.bool false))]) (init := [0, 1, 2, 3, 4]) (fin := [0, 1, 2, 3, 4, 13]) (sps := [⟨[4], [], [5], [(.slot 31)]⟩, ⟨[5], [], [6], [(.slot 32)]⟩, ⟨[6], [], [7], [(.slot 33)]⟩, ⟨[7], [], [8], [(.slot 34)]⟩, ⟨[7], [], [9], [(.slot 35)]⟩, ⟨[7], [], [10], [(.slot 36)]⟩, ⟨[7], [], [11], [(.slot 37)]⟩, ⟨[7], [], [12], [(.slot 38)]⟩, ⟨[7], [], [13], [(.slot 39)]⟩]) (es' := [(_, _), (_, _), (_, _), (_, _), (_, _), (39, .v (.bool false))]) (by kernel_rfl) rfl rfl
            ⟨st_plain rfl (op_move _ _ _ _ rfl rfl),
              st_plain rfl (op_bin _ _ _ _ _ rfl rfl rfl),
              st_plain rfl (op_move _ _ _ _ (congrArg (fun b => AV.v (Value.bool b)) hg8_2) rfl),
              st_skip 2 33 _ true rfl rfl rfl rfl (List.Mem.head _),
              st_skip 2 33 _ true rfl rfl rfl rfl (List.Mem.head _),
              st_skip 2 33 _ true rfl rfl rfl rfl (List.Mem.head _),
              st_skip 2 33 _ true rfl rfl rfl rfl (List.Mem.head _),
              st_skip 2 33 _ true rfl rfl rfl rfl (List.Mem.head _),
              st_plain rfl (op_pick _ _ false _ rfl rfl),
              trivial⟩ ?_
          exact hl75 _ (Option.some.inj h).symm

set_option maxHeartbeats 1000000 in
theorem ok_wherrykeep_Over (b : (List Int)) (r : Unit) (h : Sh.wherrykeep_Over b = some r) : FnE Try.prog 22 [.fl (.own 5) 1 (List.map (Value.int .u8) b)] (.tup []) := by
  unfold Sh.wherrykeep_Over at h
  refine fn_okE Try.func22 rfl (Nat.le_of_ble_eq_true rfl) rfl rfl fun g0 hn hio => ?_
  refine ht_seq ?_
  refine ht_seqR hn (El := [_, (2, .v (.int .i64 0))]) (init := [0]) (fin := [0, 1]) (sps := [⟨[], [], [1], [(.slot 2)]⟩]) (es' := [(_, _), (2, .v (.int .i64 0))]) (by kernel_rfl) rfl rfl
    ⟨st_plain rfl (op_assign _ _ _ _ rfl rfl),
      trivial⟩ ?_
  refine pt_then ?_
  refine ht_loopS h (fun ((s11, s12) : (List Int) × Int) => [(0, .fl (.own 5) 1 (List.map (Value.int .u8) s11)), (2, .v (.int .i64 s12))]) (fun (() : Unit) => []) ?_ ?_
  · rintro ⟨⟩ h
    obtain rfl := Option.some.inj h
    exact pt_endE hio rfl .nil rfl rfl
  · rintro u14 hl15 hr16 ⟨s11, s12⟩ rr19 h ho17
    refine ht_seq ?_
    refine ht_seq ?_
    refine ht_seqR hn (El := [_, _, (3, .v (.int .i64 s12)), (4, .same (.slot 0)), (5, .v (.int .i64 (s11.length : Int))), (6, .v (.bool ((decide (s12 < (s11.length : Int))))))]) (init := [0, 1]) (fin := [0, 1, 5]) (sps := [⟨[1], [], [2], [(.slot 3)]⟩, ⟨[0], [], [3], [(.slot 4)]⟩, ⟨[3, 0], [], [4], [(.slot 5)]⟩, ⟨[2, 4], [], [5], [(.slot 6)]⟩]) (es' := [(_, _), (_, _), (6, .v (.bool ((decide (s12 < (s11.length : Int))))))]) (by kernel_rfl) rfl rfl
      ⟨st_plain rfl (op_move _ _ _ _ rfl rfl),
        st_plain rfl (op_move _ _ _ _ rfl rfl),
        st_plain rfl (op_len_fl _ _ _ Try.underlying22 rfl (by decide) (map_len _)),
        st_plain rfl (op_bin _ _ _ _ _ rfl rfl rfl),
        trivial⟩ ?_
    refine pt_then ?_
    refine ht_cond _ rfl (fun hb20 => ?_) (fun hb20 => ?_)
    · have h := cond_t hb20 h
      refine ht_skip ?_
      refine pt_then ?_
      refine ht_seq ?_
      refine ht_block ?_
      obtain ⟨v2, hv2, h⟩ := bind_some h
      obtain ⟨v3, hv3, h⟩ := bind_some h
      obtain ⟨v4, hv4, h⟩ := bind_some h
      obtain ⟨v5, hv5, h⟩ := bind_some h
      obtain ⟨v6, hv6, h⟩ := bind_some h
      refine ht_seqR hn (El := [_, _, _, (9, .same (.slot 0)), (10, .v (.int .i64 s12)), (11, .same (.slot 0)), (12, .v (.int .i64 s12)), (13, .eref (.slot 0) (v2 * 1)), (14, .v (.int .u8 v3)), (15, .v (.int .u8 v4)), (16, .eref (.slot 0) (v5 * 1)), (0, .fl (.own 5) 1 (List.map (Value.int .u8) v6))]) (init := [0, 1, 2]) (fin := [11, 1]) (sps := [⟨[0], [], [3], [(.slot 9)]⟩, ⟨[1], [], [4], [(.slot 10)]⟩, ⟨[0], [], [5], [(.slot 11)]⟩, ⟨[1], [], [6], [(.slot 12)]⟩, ⟨[5, 0, 6], [], [7], [(.slot 13)]⟩, ⟨[7, 0], [], [8], [(.slot 14)]⟩, ⟨[8], [], [9], [(.slot 15)]⟩, ⟨[3, 0, 4], [], [10], [(.slot 16)]⟩, ⟨[10, 9], [0], [11], []⟩]) (es' := [(0, .fl (.own 5) 1 (List.map (Value.int .u8) v6)), (_, _)]) (by kernel_rfl) rfl rfl
        ⟨st_plain rfl (op_move _ _ _ _ rfl rfl),
          st_plain rfl (op_move _ _ _ _ rfl rfl),
          st_plain rfl (op_move _ _ _ _ rfl rfl),
          st_plain rfl (op_move _ _ _ _ rfl rfl),
          st_plain rfl (op_ix _ _ _ _ _ _ _ _ Try.underlying22 sz5 (by decide) rfl rfl rfl (ix_ok hv2).1 (map_lt (ix_ok hv2).2) rfl),
          st_plain rfl (op_load_e _ _ _ _ _ _ Try.underlying5 rfl rfl rfl (map_get hv3)),
          st_plain rfl (op_bin _ _ _ _ _ rfl rfl (ibind (f := Value.int .u8) (Option.some.inj hv4))),
          st_plain rfl (op_ix _ _ _ _ _ _ _ _ Try.underlying22 sz5 (by decide) rfl rfl rfl (ix_ok hv5).1 (map_lt (ix_ok hv5).2) rfl),
          st_plain rfl (op_store_e _ _ _ _ _ _ _ _ sz5 rfl rfl rfl (by decide) (map_lt (ix_ok hv5).2) ((map_set (f := Value.int .u8) _ (ix_ok hv5).2).trans (congrArg (List.map _) (Option.some.inj hv6)))),
          trivial⟩ ?_
      refine pt_inb ?_
      refine pt_then ?_
      obtain ⟨v7, hv7, h⟩ := bind_some h
      refine ht_seqR hn (El := [_, _, (7, .v (.int .i64 s12)), (8, .v (.int .i64 v7)), (2, .v (.int .i64 v7))]) (init := [0, 1]) (fin := [0, 4]) (sps := [⟨[1], [], [2], [(.slot 7)]⟩, ⟨[2], [], [3], [(.slot 8)]⟩, ⟨[3], [1], [4], [(.slot 2)]⟩]) (es' := [(_, _), (2, .v (.int .i64 v7))]) (by kernel_rfl) rfl rfl
        ⟨st_plain rfl (op_move _ _ _ _ rfl rfl),
          st_plain rfl (op_bin _ _ _ _ _ rfl rfl (ibind (f := Value.int .i64) (Option.some.inj hv7))),
          st_plain rfl (LOp.drop [_] (op_assign _ _ _ _ rfl rfl)),
          trivial⟩ ?_
      exact pt_next _ (Option.some.inj h).symm rfl
    · have h := cond_f hb20 h
      refine ht_exit ?_
      refine pt_x_then ?_
      refine pt_x_then ?_
      refine pt_x_in ?_
      refine pt_pick [] (by kernel_rfl) (es' := []) rfl ?_
      exact hl15 _ (ho17 _ (Option.some.inj h).symm).symm

set_option maxHeartbeats 1000000 in
theorem ok_wherrylaw20_wakes (r : Bool) (h : Sh.wherrylaw20_wakes  = some r) : FnOK Try.prog 23 [] (.v (.bool r)) := by
  unfold Sh.wherrylaw20_wakes at h
  refine fn_ok Try.func23 rfl (Nat.le_of_ble_eq_true rfl) rfl rfl fun g0 hn hio => ?_
  refine ht_seq ?_
  refine ht_seqR hn (El := [(0, .v (.bool false))]) (init := []) (fin := []) (sps := [⟨[], [], [0], [(.slot 0)]⟩]) (es' := []) (by kernel_rfl) rfl rfl
    ⟨st_plain rfl (op_assign _ _ _ _ rfl rfl),
      trivial⟩ ?_
  refine pt_then ?_
  refine ht_seq ?_
  refine ht_seqR hn (El := [(6, .agg [.v (.int .i64 5), .v (.int .i64 258), .v (.int .i64 0), .v (.int .i64 0), .v (.slice none 0 0)]), (1, .box 24 [.v (.int .i64 0), .v (.int .i64 0), .v (.int .i64 0), .v (.int .i64 0), .v (.slice none 0 0)]), (1, .box 24 [.v (.int .i64 5), .v (.int .i64 258), .v (.int .i64 0), .v (.int .i64 0), .v (.slice none 0 0)])]) (init := []) (fin := [2]) (sps := [⟨[], [], [0], [(.slot 6)]⟩, ⟨[], [], [1], [(.slot 1)]⟩, ⟨[0], [1], [2], [.cell 1 0, .cell 1 1, .cell 1 2, .cell 1 3, .cell 1 4]⟩]) (es' := [(1, .box 24 [.v (.int .i64 5), .v (.int .i64 258), .v (.int .i64 0), .v (.int .i64 0), .v (.slice none 0 0)])]) (by kernel_rfl) rfl rfl
    ⟨st_plain rfl (op_build _ _ _ _ [1, 1, 1, 1, 1] _ _ Try.underlying24 zr24 (fs24 _ Try.underlying24) (.copy _ (.copy _ Src.nil)) rfl rfl rfl),
      st_plain rfl (op_alloc _ _ zr24),
      st_plain rfl (op_store _ _ _ _ _ _ _ _ sz24 rfl rfl rfl rfl (Nat.le_of_ble_eq_true rfl) rfl rfl),
      trivial⟩ ?_
  refine pt_then ?_
  refine ht_seq ?_
  obtain ⟨v1, hv1, h⟩ := bind_some h
  refine ht_seqR hn (El := [_, (8, .agg [.v (.int .i64 5), .v (.int .i64 258), .v (.int .i64 0), .v (.int .i64 0), .v (.slice none 0 0)]), (9, .tup [.fl (.own 5) 1 (List.map (Value.int .u8) v1.1), .v (.int .i64 v1.2)]), (7, .tup [.fl (.own 5) 1 (List.map (Value.int .u8) v1.1), .v (.int .i64 v1.2)]), (10, .fl (.own 5) 1 (List.map (Value.int .u8) v1.1)), (7, .tup [.any, .v (.int .i64 v1.2)]), (11, .v (.int .i64 v1.2)), (2, .fl (.own 5) 1 (List.map (Value.int .u8) v1.1)), (3, .v (.int .i64 v1.2))]) (init := [0]) (fin := [0, 7, 8]) (sps := [⟨[0], [], [1], [(.slot 8)]⟩, ⟨[1], [], [2], [(.slot 9)]⟩, ⟨[], [2], [3], [(.slot 7)]⟩, ⟨[], [3], [5, 4], [(.slot 10)]⟩, ⟨[5], [], [6], [(.slot 11)]⟩, ⟨[], [4], [7], [(.slot 2)]⟩, ⟨[6], [], [8], [(.slot 3)]⟩]) (es' := [(_, _), (2, .fl (.own 5) 1 (List.map (Value.int .u8) v1.1)), (3, .v (.int .i64 v1.2))]) (by kernel_rfl) rfl rfl
    ⟨st_plain rfl (op_loadA _ _ _ _ _ _ _ Try.underlying24 rfl sz24 rfl rfl (Nat.le_of_ble_eq_true rfl) rfl rfl),
      st_plain rfl (op_call _ _ 12 _ _ rfl Try.call12 rfl ((ok_frame_Bytes (T_Frame.mk 5 258 0 0 []) _ hv1).args (subs_cons (sub_agg (subs_cons (sub_refl _) (subs_cons (sub_refl _) (subs_cons (sub_refl _) (subs_cons (sub_refl _) (subs_cons (sub_nil_shr 1) (subs_nil))))))) (subs_nil))) rfl rfl),
      st_plain rfl (op_move_take _ _ _ _ rfl),
      st_plain rfl (op_extract_take _ _ _ _ _ rfl (Nat.le_of_ble_eq_true rfl) rfl rfl (by decide) rfl),
      st_plain rfl (op_extract _ _ _ _ _ rfl rfl (Nat.le_of_ble_eq_true rfl) rfl rfl),
      st_plain rfl (op_assign_take _ _ _ _ rfl),
      st_plain rfl (op_assign _ _ _ _ rfl rfl),
      trivial⟩ ?_
  refine pt_then ?_
  refine ht_seq ?_
  obtain ⟨v2, hv2, h⟩ := bind_some h
  refine ht_seqR hn (El := [_, _, _, (13, .same (.slot 2)), (14, .tup [.agg [.v (.int .i64 v2.1.Kind), .v (.int .i64 v2.1.Number), .v (.int .i64 v2.1.Offset), .v (.int .i64 v2.1.Seq), .fl (.own 5) 1 (List.map (Value.int .u8) v2.1.Data)], .v (.int .i64 v2.2)]), (12, .tup [.agg [.v (.int .i64 v2.1.Kind), .v (.int .i64 v2.1.Number), .v (.int .i64 v2.1.Offset), .v (.int .i64 v2.1.Seq), .fl (.own 5) 1 (List.map (Value.int .u8) v2.1.Data)], .v (.int .i64 v2.2)]), (15, .agg [.v (.int .i64 v2.1.Kind), .v (.int .i64 v2.1.Number), .v (.int .i64 v2.1.Offset), .v (.int .i64 v2.1.Seq), .fl (.own 5) 1 (List.map (Value.int .u8) v2.1.Data)]), (12, .tup [.any, .v (.int .i64 v2.2)]), (16, .v (.int .i64 v2.2)), (4, .box 24 [.v (.int .i64 0), .v (.int .i64 0), .v (.int .i64 0), .v (.int .i64 0), .v (.slice none 0 0)]), (4, .box 24 [.v (.int .i64 v2.1.Kind), .v (.int .i64 v2.1.Number), .v (.int .i64 v2.1.Offset), .v (.int .i64 v2.1.Seq), .fl (.own 5) 1 (List.map (Value.int .u8) v2.1.Data)]), (5, .v (.int .i64 v2.2))]) (init := [0, 1, 2]) (fin := [0, 1, 2, 10, 11]) (sps := [⟨[1], [], [3], [(.slot 13)]⟩, ⟨[3, 1], [], [4], [(.slot 14)]⟩, ⟨[], [4], [5], [(.slot 12)]⟩, ⟨[], [5], [7, 6], [(.slot 15)]⟩, ⟨[7], [], [8], [(.slot 16)]⟩, ⟨[], [], [9], [(.slot 4)]⟩, ⟨[], [6, 9], [10], [.cell 4 0, .cell 4 1, .cell 4 2, .cell 4 3, .cell 4 4]⟩, ⟨[8], [], [11], [(.slot 5)]⟩]) (es' := [(_, _), (_, _), (_, _), (4, .box 24 [.v (.int .i64 v2.1.Kind), .v (.int .i64 v2.1.Number), .v (.int .i64 v2.1.Offset), .v (.int .i64 v2.1.Seq), .fl (.own 5) 1 (List.map (Value.int .u8) v2.1.Data)]), (5, .v (.int .i64 v2.2))]) (by kernel_rfl) rfl rfl
    ⟨st_plain rfl (op_move _ _ _ _ rfl rfl),
      st_plain rfl (op_call _ _ 13 _ _ rfl Try.call13 rfl (ok_frame_Read v1.1 _ hv2) rfl rfl),
      st_plain rfl (op_move_take _ _ _ _ rfl),
      st_plain rfl (op_extract_take _ _ _ _ _ rfl (Nat.le_of_ble_eq_true rfl) rfl rfl (by decide) rfl),
      st_plain rfl (op_extract _ _ _ _ _ rfl rfl (Nat.le_of_ble_eq_true rfl) rfl rfl),
      st_plain rfl (op_alloc _ _ zr24),
      st_plain rfl (op_store_take _ _ _ _ _ _ _ _ sz24 rfl rfl rfl (Nat.le_of_ble_eq_true rfl) rfl rfl),
      st_plain rfl (op_assign _ _ _ _ rfl rfl),
      trivial⟩ ?_
  refine pt_then ?_
  refine ht_seq ?_
  refine ht_joinS h (fun (s9 : Bool) => [(0, .v (.bool s9))]) ?_ ?_
  · rintro s9 h
    refine pt_then ?_
    refine ht_ret ?_
    obtain rfl := Option.some.inj h
    exact pt_ret hio rfl (.tmp _ _ .nil) rfl rfl
  · intro u10 h hl11 hr12
    refine cond_some h (fun hg4_2 h => ?_) (fun hg4_2 h => ?_)
    · refine cond_some h (fun hg4_6 h => ?_) (fun hg4_6 h => ?_)
      · refine cond_some h (fun hg4_11 h => ?_) (fun hg4_11 h => ?_)
        · obtain ⟨v3, hv3, h⟩ := bind_some h
          obtain ⟨v4, hv4, h⟩ := bind_some h
          refine cond_some h (fun hg4_17 h => ?_) (fun hg4_17 h => ?_)
          · obtain ⟨v5, hv5, h⟩ := bind_some h
            obtain ⟨v6, hv6, h⟩ := bind_some h
            refine cond_some h (fun hg4_23 h => ?_) (fun hg4_23 h => ?_)
            · obtain ⟨v7, hv7, h⟩ := bind_some h
              refine cond_some h (fun hg4_28 h => ?_) (fun hg4_28 h => ?_)
              · obtain ⟨v8, hv8, h⟩ := bind_some h
                refine ht_seqR hn (El := (_ :: _ :: _ :: _ :: _ :: (17, .v (.int .i64 v1.2)) :: (18, .v (.bool (v1.2 == 0))) :: (19, .v (.bool true)) :: (20, .v (.int .i64 v2.2)) :: (21, .v (.bool (v2.2 == 0))) :: (22, .v (.bool (v2.2 == 0))) :: (23, .v (.bool true)) :: (24, .same (.slot 2)) :: (25, .v (.int .i64 (v1.1.length : Int))) :: (26, .v (.bool (((v1.1.length : Int) == 9)))) :: (27, .v (.bool (((v1.1.length : Int) == 9)))) :: (28, .v (.bool true)) :: (29, .same (.slot 2)) :: (30, .eref (.slot 2) (v3 * 1)) :: (31, .v (.int .u8 v4)) :: (32, .v (.bool (v4 == 1))) :: (33, .v (.bool (v4 == 1))) :: (34, .v (.bool true)) :: (35, .fl (.own 5) 1 (List.map (Value.int .u8) v1.1)) :: (36, .eref (.slot 35) (v5 * 1)) :: (37, .v (.int .u8 v6)) :: (38, .v (.bool (v6 == 2))) :: (39, .v (.bool (v6 == 2))) :: (40, .v (.bool true)) :: (41, .agg [.v (.int .i64 v2.1.Kind), .v (.int .i64 v2.1.Number), .v (.int .i64 v2.1.Offset), .v (.int .i64 v2.1.Seq), .fl (.own 5) 1 (List.map (Value.int .u8) v2.1.Data)]) :: (42, .agg [.v (.int .i64 5), .v (.int .i64 258), .v (.int .i64 0), .v (.int .i64 0), .v (.slice none 0 0)]) :: (43, .v (.bool v7)) :: (44, .v (.bool v7)) :: (45, .v (.bool true)) :: (46, .agg [.v (.int .i64 0), .v (.int .i64 0), .v (.int .i64 0), .v (.int .i64 0), .v (.slice none 0 0)]) :: (47, .v (.int .i64 v8)) :: (48, .v (.bool (v8 == 1))) :: (49, .v (.bool (v8 == 1))) :: (0, .v (.bool (v8 == 1))) :: [])) (init := [0, 1, 2, 3, 4]) (fin := [38]) (sps := (⟨[2], [], [5], [(.slot 17)]⟩ :: ⟨[5], [], [6], [(.slot 18)]⟩ :: ⟨[6], [], [7], [(.slot 19)]⟩ :: ⟨[7, 4], [], [8], [(.slot 20)]⟩ :: ⟨[7, 8], [], [9], [(.slot 21)]⟩ :: ⟨[7, 9], [], [10], [(.slot 22)]⟩ :: ⟨[10], [], [11], [(.slot 23)]⟩ :: ⟨[11, 1], [], [12], [(.slot 24)]⟩ :: ⟨[11, 12, 1], [], [13], [(.slot 25)]⟩ :: ⟨[11, 13], [], [14], [(.slot 26)]⟩ :: ⟨[11, 14], [], [15], [(.slot 27)]⟩ :: ⟨[15], [], [16], [(.slot 28)]⟩ :: ⟨[16, 1], [], [17], [(.slot 29)]⟩ :: ⟨[16, 17, 1], [], [18], [(.slot 30)]⟩ :: ⟨[16, 18, 1], [], [19], [(.slot 31)]⟩ :: ⟨[16, 19], [], [20], [(.slot 32)]⟩ :: ⟨[16, 20], [], [21], [(.slot 33)]⟩ :: ⟨[21], [], [22], [(.slot 34)]⟩ :: ⟨[22], [12, 17, 18, 1], [23], [(.slot 35)]⟩ :: ⟨[22, 23], [], [24], [(.slot 36)]⟩ :: ⟨[22, 24, 23], [], [25], [(.slot 37)]⟩ :: ⟨[22, 25], [], [26], [(.slot 38)]⟩ :: ⟨[22, 26], [], [27], [(.slot 39)]⟩ :: ⟨[27], [], [28], [(.slot 40)]⟩ :: ⟨[28], [3], [29], [(.slot 41)]⟩ :: ⟨[28, 0], [], [30], [(.slot 42)]⟩ :: ⟨[28, 29, 30], [], [31], [(.slot 43)]⟩ :: ⟨[28, 31], [], [32], [(.slot 44)]⟩ :: ⟨[32], [], [33], [(.slot 45)]⟩ :: ⟨[33], [], [34], [(.slot 46)]⟩ :: ⟨[33, 34], [], [35], [(.slot 47)]⟩ :: ⟨[33, 35], [], [36], [(.slot 48)]⟩ :: ⟨[33, 36], [], [37], [(.slot 49)]⟩ :: ⟨[37], [], [38], [(.slot 0)]⟩ :: [])) (es' := [(0, .v (.bool (v8 == 1)))]) (by kernel_rfl) rfl rfl
                  ⟨st_plain rfl (op_move _ _ _ _ rfl rfl),
                    st_plain rfl (op_bin _ _ _ _ _ rfl rfl rfl),
                    st_plain rfl (op_move _ _ _ _ (congrArg (fun b => AV.v (Value.bool b)) hg4_2) rfl),
                    st_run 2 19 true rfl rfl rfl (List.Mem.head _) (op_move _ _ _ _ rfl rfl),
                    st_run 2 19 true rfl rfl rfl (List.Mem.head _) (op_bin _ _ _ _ _ rfl rfl rfl),
                    st_plain rfl (op_pick _ _ true _ rfl rfl),
                    st_plain rfl (op_move _ _ _ _ (congrArg (fun b => AV.v (Value.bool b)) hg4_6) rfl),
                    st_run 6 23 true rfl rfl rfl (List.Mem.head _) (op_move _ _ _ _ rfl rfl),
                    st_run 6 23 true rfl rfl rfl (List.Mem.head _) (op_len_fl _ _ _ Try.underlying22 rfl (by decide) (map_len _)),
                    st_run 6 23 true rfl rfl rfl (List.Mem.head _) (op_bin _ _ _ _ _ rfl rfl rfl),
                    st_plain rfl (op_pick _ _ true _ rfl rfl),
                    st_plain rfl (op_move _ _ _ _ (congrArg (fun b => AV.v (Value.bool b)) hg4_11) rfl),
                    st_run 11 28 true rfl rfl rfl (List.Mem.head _) (op_move _ _ _ _ rfl rfl),
                    st_run 11 28 true rfl rfl rfl (List.Mem.head _) (op_ix _ _ _ _ _ _ _ _ Try.underlying22 sz5 (by decide) rfl rfl rfl (ix_ok hv3).1 (map_lt (ix_ok hv3).2) rfl),
                    st_run 11 28 true rfl rfl rfl (List.Mem.head _) (op_load_e _ _ _ _ _ _ Try.underlying5 rfl rfl rfl (map_get hv4)),
                    st_run 11 28 true rfl rfl rfl (List.Mem.head _) (op_bin _ _ _ _ _ rfl rfl rfl),
                    st_plain rfl (op_pick _ _ true _ rfl rfl),
                    st_plain rfl (op_move _ _ _ _ (congrArg (fun b => AV.v (Value.bool b)) hg4_17) rfl),
                    st_run 17 34 true rfl rfl rfl (List.Mem.head _) (LOp.drop [_] (LOp.drop [_] (LOp.drop [_] (op_move_take _ _ _ _ rfl)))),
                    st_run 17 34 true rfl rfl rfl (List.Mem.head _) (op_ix _ _ _ _ _ _ _ _ Try.underlying22 sz5 (by decide) rfl rfl rfl (ix_ok hv5).1 (map_lt (ix_ok hv5).2) rfl),
                    st_run 17 34 true rfl rfl rfl (List.Mem.head _) (op_load_e _ _ _ _ _ _ Try.underlying5 rfl rfl rfl (map_get hv6)),
                    st_run 17 34 true rfl rfl rfl (List.Mem.head _) (op_bin _ _ _ _ _ rfl rfl rfl),
                    st_plain rfl (op_pick _ _ true _ rfl rfl),
                    st_plain rfl (op_move _ _ _ _ (congrArg (fun b => AV.v (Value.bool b)) hg4_23) rfl),
                    st_run 23 40 true rfl rfl rfl (List.Mem.head _) (op_loadA_take _ _ _ _ Try.underlying24 rfl sz24 rfl rfl),
                    st_run 23 40 true rfl rfl rfl (List.Mem.head _) (op_loadA _ _ _ _ _ _ _ Try.underlying24 rfl sz24 rfl rfl (Nat.le_of_ble_eq_true rfl) rfl rfl),
                    st_run 23 40 true rfl rfl rfl (List.Mem.head _) (op_call _ _ 19 _ _ rfl Try.call19 rfl ((ok_wherrykeep_Frame v2.1 (T_Frame.mk 5 258 0 0 []) _ hv7).args (subs_cons (sub_refl _) (subs_cons (sub_agg (subs_cons (sub_refl _) (subs_cons (sub_refl _) (subs_cons (sub_refl _) (subs_cons (sub_refl _) (subs_cons (sub_nil_shr 1) (subs_nil))))))) (subs_nil)))) rfl rfl),
                    st_plain rfl (op_pick _ _ true _ rfl rfl),
                    st_plain rfl (op_move _ _ _ _ (congrArg (fun b => AV.v (Value.bool b)) hg4_28) rfl),
                    st_run 28 45 true rfl rfl rfl (List.Mem.head _) (op_build _ _ _ _ [1, 1, 1, 1, 1] _ _ Try.underlying24 zr24 (fs24 _ Try.underlying24) Src.nil rfl rfl rfl),
                    st_run 28 45 true rfl rfl rfl (List.Mem.head _) (op_call _ _ 16 _ _ rfl Try.call16 rfl ((ok_frame_Check (T_Frame.mk 0 0 0 0 []) _ hv8).args (subs_cons (sub_agg (subs_cons (sub_refl _) (subs_cons (sub_refl _) (subs_cons (sub_refl _) (subs_cons (sub_refl _) (subs_cons (sub_nil_shr 1) (subs_nil))))))) (subs_nil))) rfl rfl),
                    st_run 28 45 true rfl rfl rfl (List.Mem.head _) (op_bin _ _ _ _ _ rfl rfl rfl),
                    st_plain rfl (op_pick _ _ true _ rfl rfl),
                    st_plain rfl (op_assign _ _ _ _ rfl rfl),
                    trivial⟩ ?_
                exact hl11 _ (Option.some.inj h).symm
              · refine ht_seqR hn (El := (_ :: _ :: _ :: _ :: _ :: (17, .v (.int .i64 v1.2)) :: (18, .v (.bool (v1.2 == 0))) :: (19, .v (.bool true)) :: (20, .v (.int .i64 v2.2)) :: (21, .v (.bool (v2.2 == 0))) :: (22, .v (.bool (v2.2 == 0))) :: (23, .v (.bool true)) :: (24, .same (.slot 2)) :: (25, .v (.int .i64 (v1.1.length : Int))) :: (26, .v (.bool (((v1.1.length : Int) == 9)))) :: (27, .v (.bool (((v1.1.length : Int) == 9)))) :: (28, .v (.bool true)) :: (29, .same (.slot 2)) :: (30, .eref (.slot 2) (v3 * 1)) :: (31, .v (.int .u8 v4)) :: (32, .v (.bool (v4 == 1))) :: (33, .v (.bool (v4 == 1))) :: (34, .v (.bool true)) :: (35, .fl (.own 5) 1 (List.map (Value.int .u8) v1.1)) :: (36, .eref (.slot 35) (v5 * 1)) :: (37, .v (.int .u8 v6)) :: (38, .v (.bool (v6 == 2))) :: (39, .v (.bool (v6 == 2))) :: (40, .v (.bool true)) :: (41, .agg [.v (.int .i64 v2.1.Kind), .v (.int .i64 v2.1.Number), .v (.int .i64 v2.1.Offset), .v (.int .i64 v2.1.Seq), .fl (.own 5) 1 (List.map (Value.int .u8) v2.1.Data)]) :: (42, .agg [.v (.int .i64 5), .v (.int .i64 258), .v (.int .i64 0), .v (.int .i64 0), .v (.slice none 0 0)]) :: (43, .v (.bool v7)) :: (44, .v (.bool v7)) :: (45, .v (.bool false)) :: (46, .v undef) :: (47, .v undef) :: (48, .v undef) :: (49, .v (.bool false)) :: (0, .v (.bool false)) :: [])) (init := [0, 1, 2, 3, 4]) (fin := [38]) (sps := (⟨[2], [], [5], [(.slot 17)]⟩ :: ⟨[5], [], [6], [(.slot 18)]⟩ :: ⟨[6], [], [7], [(.slot 19)]⟩ :: ⟨[7, 4], [], [8], [(.slot 20)]⟩ :: ⟨[7, 8], [], [9], [(.slot 21)]⟩ :: ⟨[7, 9], [], [10], [(.slot 22)]⟩ :: ⟨[10], [], [11], [(.slot 23)]⟩ :: ⟨[11, 1], [], [12], [(.slot 24)]⟩ :: ⟨[11, 12, 1], [], [13], [(.slot 25)]⟩ :: ⟨[11, 13], [], [14], [(.slot 26)]⟩ :: ⟨[11, 14], [], [15], [(.slot 27)]⟩ :: ⟨[15], [], [16], [(.slot 28)]⟩ :: ⟨[16, 1], [], [17], [(.slot 29)]⟩ :: ⟨[16, 17, 1], [], [18], [(.slot 30)]⟩ :: ⟨[16, 18, 1], [], [19], [(.slot 31)]⟩ :: ⟨[16, 19], [], [20], [(.slot 32)]⟩ :: ⟨[16, 20], [], [21], [(.slot 33)]⟩ :: ⟨[21], [], [22], [(.slot 34)]⟩ :: ⟨[22], [12, 17, 18, 1], [23], [(.slot 35)]⟩ :: ⟨[22, 23], [], [24], [(.slot 36)]⟩ :: ⟨[22, 24, 23], [], [25], [(.slot 37)]⟩ :: ⟨[22, 25], [], [26], [(.slot 38)]⟩ :: ⟨[22, 26], [], [27], [(.slot 39)]⟩ :: ⟨[27], [], [28], [(.slot 40)]⟩ :: ⟨[28], [3], [29], [(.slot 41)]⟩ :: ⟨[28, 0], [], [30], [(.slot 42)]⟩ :: ⟨[28, 29, 30], [], [31], [(.slot 43)]⟩ :: ⟨[28, 31], [], [32], [(.slot 44)]⟩ :: ⟨[32], [], [33], [(.slot 45)]⟩ :: ⟨[33], [], [34], [(.slot 46)]⟩ :: ⟨[33], [], [35], [(.slot 47)]⟩ :: ⟨[33], [], [36], [(.slot 48)]⟩ :: ⟨[33], [], [37], [(.slot 49)]⟩ :: ⟨[37], [], [38], [(.slot 0)]⟩ :: [])) (es' := [(0, .v (.bool false))]) (by kernel_rfl) rfl rfl
                  ⟨st_plain rfl (op_move _ _ _ _ rfl rfl),
                    st_plain rfl (op_bin _ _ _ _ _ rfl rfl rfl),
                    st_plain rfl (op_move _ _ _ _ (congrArg (fun b => AV.v (Value.bool b)) hg4_2) rfl),
                    st_run 2 19 true rfl rfl rfl (List.Mem.head _) (op_move _ _ _ _ rfl rfl),
                    st_run 2 19 true rfl rfl rfl (List.Mem.head _) (op_bin _ _ _ _ _ rfl rfl rfl),
                    st_plain rfl (op_pick _ _ true _ rfl rfl),
                    st_plain rfl (op_move _ _ _ _ (congrArg (fun b => AV.v (Value.bool b)) hg4_6) rfl),
                    st_run 6 23 true rfl rfl rfl (List.Mem.head _) (op_move _ _ _ _ rfl rfl),
                    st_run 6 23 true rfl rfl rfl (List.Mem.head _) (op_len_fl _ _ _ Try.underlying22 rfl (by decide) (map_len _)),
                    st_run 6 23 true rfl rfl rfl (List.Mem.head _) (op_bin _ _ _ _ _ rfl rfl rfl),
                    st_plain rfl (op_pick _ _ true _ rfl rfl),
                    st_plain rfl (op_move _ _ _ _ (congrArg (fun b => AV.v (Value.bool b)) hg4_11) rfl),
                    st_run 11 28 true rfl rfl rfl (List.Mem.head _) (op_move _ _ _ _ rfl rfl),
                    st_run 11 28 true rfl rfl rfl (List.Mem.head _) (op_ix _ _ _ _ _ _ _ _ Try.underlying22 sz5 (by decide) rfl rfl rfl (ix_ok hv3).1 (map_lt (ix_ok hv3).2) rfl),
                    st_run 11 28 true rfl rfl rfl (List.Mem.head _) (op_load_e _ _ _ _ _ _ Try.underlying5 rfl rfl rfl (map_get hv4)),
                    st_run 11 28 true rfl rfl rfl (List.Mem.head _) (op_bin _ _ _ _ _ rfl rfl rfl),
                    st_plain rfl (op_pick _ _ true _ rfl rfl),
                    st_plain rfl (op_move _ _ _ _ (congrArg (fun b => AV.v (Value.bool b)) hg4_17) rfl),
                    st_run 17 34 true rfl rfl rfl (List.Mem.head _) (LOp.drop [_] (LOp.drop [_] (LOp.drop [_] (op_move_take _ _ _ _ rfl)))),
                    st_run 17 34 true rfl rfl rfl (List.Mem.head _) (op_ix _ _ _ _ _ _ _ _ Try.underlying22 sz5 (by decide) rfl rfl rfl (ix_ok hv5).1 (map_lt (ix_ok hv5).2) rfl),
                    st_run 17 34 true rfl rfl rfl (List.Mem.head _) (op_load_e _ _ _ _ _ _ Try.underlying5 rfl rfl rfl (map_get hv6)),
                    st_run 17 34 true rfl rfl rfl (List.Mem.head _) (op_bin _ _ _ _ _ rfl rfl rfl),
                    st_plain rfl (op_pick _ _ true _ rfl rfl),
                    st_plain rfl (op_move _ _ _ _ (congrArg (fun b => AV.v (Value.bool b)) hg4_23) rfl),
                    st_run 23 40 true rfl rfl rfl (List.Mem.head _) (op_loadA_take _ _ _ _ Try.underlying24 rfl sz24 rfl rfl),
                    st_run 23 40 true rfl rfl rfl (List.Mem.head _) (op_loadA _ _ _ _ _ _ _ Try.underlying24 rfl sz24 rfl rfl (Nat.le_of_ble_eq_true rfl) rfl rfl),
                    st_run 23 40 true rfl rfl rfl (List.Mem.head _) (op_call _ _ 19 _ _ rfl Try.call19 rfl ((ok_wherrykeep_Frame v2.1 (T_Frame.mk 5 258 0 0 []) _ hv7).args (subs_cons (sub_refl _) (subs_cons (sub_agg (subs_cons (sub_refl _) (subs_cons (sub_refl _) (subs_cons (sub_refl _) (subs_cons (sub_refl _) (subs_cons (sub_nil_shr 1) (subs_nil))))))) (subs_nil)))) rfl rfl),
                    st_plain rfl (op_pick _ _ true _ rfl rfl),
                    st_plain rfl (op_move _ _ _ _ (congrArg (fun b => AV.v (Value.bool b)) hg4_28) rfl),
                    st_skip 28 45 _ true rfl rfl rfl rfl (List.Mem.head _),
                    st_skip 28 45 _ true rfl rfl rfl rfl (List.Mem.head _),
                    st_skip 28 45 _ true rfl rfl rfl rfl (List.Mem.head _),
                    st_plain rfl (op_pick _ _ false _ rfl rfl),
                    st_plain rfl (op_assign _ _ _ _ rfl rfl),
                    trivial⟩ ?_
                exact hl11 _ (Option.some.inj h).symm
            · refine ht_seqR hn (El := (_ :: _ :: _ :: _ :: _ :: (17, .v (.int .i64 v1.2)) :: (18, .v (.bool (v1.2 == 0))) :: (19, .v (.bool true)) :: (20, .v (.int .i64 v2.2)) :: (21, .v (.bool (v2.2 == 0))) :: (22, .v (.bool (v2.2 == 0))) :: (23, .v (.bool true)) :: (24, .same (.slot 2)) :: (25, .v (.int .i64 (v1.1.length : Int))) :: (26, .v (.bool (((v1.1.length : Int) == 9)))) :: (27, .v (.bool (((v1.1.length : Int) == 9)))) :: (28, .v (.bool true)) :: (29, .same (.slot 2)) :: (30, .eref (.slot 2) (v3 * 1)) :: (31, .v (.int .u8 v4)) :: (32, .v (.bool (v4 == 1))) :: (33, .v (.bool (v4 == 1))) :: (34, .v (.bool true)) :: (35, .fl (.own 5) 1 (List.map (Value.int .u8) v1.1)) :: (36, .eref (.slot 35) (v5 * 1)) :: (37, .v (.int .u8 v6)) :: (38, .v (.bool (v6 == 2))) :: (39, .v (.bool (v6 == 2))) :: (40, .v (.bool false)) :: (41, .v undef) :: (42, .v undef) :: (43, .v undef) :: (44, .v (.bool false)) :: (45, .v (.bool false)) :: (46, .v undef) :: (47, .v undef) :: (48, .v undef) :: (49, .v (.bool false)) :: (0, .v (.bool false)) :: [])) (init := [0, 1, 2, 3, 4]) (fin := [38]) (sps := (⟨[2], [], [5], [(.slot 17)]⟩ :: ⟨[5], [], [6], [(.slot 18)]⟩ :: ⟨[6], [], [7], [(.slot 19)]⟩ :: ⟨[7, 4], [], [8], [(.slot 20)]⟩ :: ⟨[7, 8], [], [9], [(.slot 21)]⟩ :: ⟨[7, 9], [], [10], [(.slot 22)]⟩ :: ⟨[10], [], [11], [(.slot 23)]⟩ :: ⟨[11, 1], [], [12], [(.slot 24)]⟩ :: ⟨[11, 12, 1], [], [13], [(.slot 25)]⟩ :: ⟨[11, 13], [], [14], [(.slot 26)]⟩ :: ⟨[11, 14], [], [15], [(.slot 27)]⟩ :: ⟨[15], [], [16], [(.slot 28)]⟩ :: ⟨[16, 1], [], [17], [(.slot 29)]⟩ :: ⟨[16, 17, 1], [], [18], [(.slot 30)]⟩ :: ⟨[16, 18, 1], [], [19], [(.slot 31)]⟩ :: ⟨[16, 19], [], [20], [(.slot 32)]⟩ :: ⟨[16, 20], [], [21], [(.slot 33)]⟩ :: ⟨[21], [], [22], [(.slot 34)]⟩ :: ⟨[22], [12, 17, 18, 1], [23], [(.slot 35)]⟩ :: ⟨[22, 23], [], [24], [(.slot 36)]⟩ :: ⟨[22, 24, 23], [], [25], [(.slot 37)]⟩ :: ⟨[22, 25], [], [26], [(.slot 38)]⟩ :: ⟨[22, 26], [], [27], [(.slot 39)]⟩ :: ⟨[27], [], [28], [(.slot 40)]⟩ :: ⟨[28], [], [29], [(.slot 41)]⟩ :: ⟨[28], [], [30], [(.slot 42)]⟩ :: ⟨[28], [], [31], [(.slot 43)]⟩ :: ⟨[28], [], [32], [(.slot 44)]⟩ :: ⟨[32], [], [33], [(.slot 45)]⟩ :: ⟨[33], [], [34], [(.slot 46)]⟩ :: ⟨[33], [], [35], [(.slot 47)]⟩ :: ⟨[33], [], [36], [(.slot 48)]⟩ :: ⟨[33], [], [37], [(.slot 49)]⟩ :: ⟨[37], [], [38], [(.slot 0)]⟩ :: [])) (es' := [(0, .v (.bool false))]) (by kernel_rfl) rfl rfl
                ⟨st_plain rfl (op_move _ _ _ _ rfl rfl),
                  st_plain rfl (op_bin _ _ _ _ _ rfl rfl rfl),
                  st_plain rfl (op_move _ _ _ _ (congrArg (fun b => AV.v (Value.bool b)) hg4_2) rfl),
                  st_run 2 19 true rfl rfl rfl (List.Mem.head _) (op_move _ _ _ _ rfl rfl),
                  st_run 2 19 true rfl rfl rfl (List.Mem.head _) (op_bin _ _ _ _ _ rfl rfl rfl),
                  st_plain rfl (op_pick _ _ true _ rfl rfl),
                  st_plain rfl (op_move _ _ _ _ (congrArg (fun b => AV.v (Value.bool b)) hg4_6) rfl),
                  st_run 6 23 true rfl rfl rfl (List.Mem.head _) (op_move _ _ _ _ rfl rfl),
                  st_run 6 23 true rfl rfl rfl (List.Mem.head _) (op_len_fl _ _ _ Try.underlying22 rfl (by decide) (map_len _)),
                  st_run 6 23 true rfl rfl rfl (List.Mem.head _) (op_bin _ _ _ _ _ rfl rfl rfl),
                  st_plain rfl (op_pick _ _ true _ rfl rfl),
                  st_plain rfl (op_move _ _ _ _ (congrArg (fun b => AV.v (Value.bool b)) hg4_11) rfl),
                  st_run 11 28 true rfl rfl rfl (List.Mem.head _) (op_move _ _ _ _ rfl rfl),
                  st_run 11 28 true rfl rfl rfl (List.Mem.head _) (op_ix _ _ _ _ _ _ _ _ Try.underlying22 sz5 (by decide) rfl rfl rfl (ix_ok hv3).1 (map_lt (ix_ok hv3).2) rfl),
                  st_run 11 28 true rfl rfl rfl (List.Mem.head _) (op_load_e _ _ _ _ _ _ Try.underlying5 rfl rfl rfl (map_get hv4)),
                  st_run 11 28 true rfl rfl rfl (List.Mem.head _) (op_bin _ _ _ _ _ rfl rfl rfl),
                  st_plain rfl (op_pick _ _ true _ rfl rfl),
                  st_plain rfl (op_move _ _ _ _ (congrArg (fun b => AV.v (Value.bool b)) hg4_17) rfl),
                  st_run 17 34 true rfl rfl rfl (List.Mem.head _) (LOp.drop [_] (LOp.drop [_] (LOp.drop [_] (op_move_take _ _ _ _ rfl)))),
                  st_run 17 34 true rfl rfl rfl (List.Mem.head _) (op_ix _ _ _ _ _ _ _ _ Try.underlying22 sz5 (by decide) rfl rfl rfl (ix_ok hv5).1 (map_lt (ix_ok hv5).2) rfl),
                  st_run 17 34 true rfl rfl rfl (List.Mem.head _) (op_load_e _ _ _ _ _ _ Try.underlying5 rfl rfl rfl (map_get hv6)),
                  st_run 17 34 true rfl rfl rfl (List.Mem.head _) (op_bin _ _ _ _ _ rfl rfl rfl),
                  st_plain rfl (op_pick _ _ true _ rfl rfl),
                  st_plain rfl (op_move _ _ _ _ (congrArg (fun b => AV.v (Value.bool b)) hg4_23) rfl),
                  st_skip 23 40 _ true rfl rfl rfl rfl (List.Mem.head _),
                  st_skip 23 40 _ true rfl rfl rfl rfl (List.Mem.head _),
                  st_skip 23 40 _ true rfl rfl rfl rfl (List.Mem.head _),
                  st_plain rfl (op_pick _ _ false _ rfl rfl),
                  st_plain rfl (op_move _ _ _ _ rfl rfl),
                  st_skip 28 45 _ true rfl rfl rfl rfl (List.Mem.head _),
                  st_skip 28 45 _ true rfl rfl rfl rfl (List.Mem.head _),
                  st_skip 28 45 _ true rfl rfl rfl rfl (List.Mem.head _),
                  st_plain rfl (op_pick _ _ false _ rfl rfl),
                  st_plain rfl (op_assign _ _ _ _ rfl rfl),
                  trivial⟩ ?_
              exact hl11 _ (Option.some.inj h).symm
          · refine ht_seqR hn (El := (_ :: _ :: _ :: _ :: _ :: (17, .v (.int .i64 v1.2)) :: (18, .v (.bool (v1.2 == 0))) :: (19, .v (.bool true)) :: (20, .v (.int .i64 v2.2)) :: (21, .v (.bool (v2.2 == 0))) :: (22, .v (.bool (v2.2 == 0))) :: (23, .v (.bool true)) :: (24, .same (.slot 2)) :: (25, .v (.int .i64 (v1.1.length : Int))) :: (26, .v (.bool (((v1.1.length : Int) == 9)))) :: (27, .v (.bool (((v1.1.length : Int) == 9)))) :: (28, .v (.bool true)) :: (29, .same (.slot 2)) :: (30, .eref (.slot 2) (v3 * 1)) :: (31, .v (.int .u8 v4)) :: (32, .v (.bool (v4 == 1))) :: (33, .v (.bool (v4 == 1))) :: (34, .v (.bool false)) :: (35, .v undef) :: (36, .v undef) :: (37, .v undef) :: (38, .v undef) :: (39, .v (.bool false)) :: (40, .v (.bool false)) :: (41, .v undef) :: (42, .v undef) :: (43, .v undef) :: (44, .v (.bool false)) :: (45, .v (.bool false)) :: (46, .v undef) :: (47, .v undef) :: (48, .v undef) :: (49, .v (.bool false)) :: (0, .v (.bool false)) :: [])) (init := [0, 1, 2, 3, 4]) (fin := [38]) (sps := (⟨[2], [], [5], [(.slot 17)]⟩ :: ⟨[5], [], [6], [(.slot 18)]⟩ :: ⟨[6], [], [7], [(.slot 19)]⟩ :: ⟨[7, 4], [], [8], [(.slot 20)]⟩ :: ⟨[7, 8], [], [9], [(.slot 21)]⟩ :: ⟨[7, 9], [], [10], [(.slot 22)]⟩ :: ⟨[10], [], [11], [(.slot 23)]⟩ :: ⟨[11, 1], [], [12], [(.slot 24)]⟩ :: ⟨[11, 12, 1], [], [13], [(.slot 25)]⟩ :: ⟨[11, 13], [], [14], [(.slot 26)]⟩ :: ⟨[11, 14], [], [15], [(.slot 27)]⟩ :: ⟨[15], [], [16], [(.slot 28)]⟩ :: ⟨[16, 1], [], [17], [(.slot 29)]⟩ :: ⟨[16, 17, 1], [], [18], [(.slot 30)]⟩ :: ⟨[16, 18, 1], [], [19], [(.slot 31)]⟩ :: ⟨[16, 19], [], [20], [(.slot 32)]⟩ :: ⟨[16, 20], [], [21], [(.slot 33)]⟩ :: ⟨[21], [], [22], [(.slot 34)]⟩ :: ⟨[22], [], [23], [(.slot 35)]⟩ :: ⟨[22], [], [24], [(.slot 36)]⟩ :: ⟨[22], [], [25], [(.slot 37)]⟩ :: ⟨[22], [], [26], [(.slot 38)]⟩ :: ⟨[22], [], [27], [(.slot 39)]⟩ :: ⟨[27], [], [28], [(.slot 40)]⟩ :: ⟨[28], [], [29], [(.slot 41)]⟩ :: ⟨[28], [], [30], [(.slot 42)]⟩ :: ⟨[28], [], [31], [(.slot 43)]⟩ :: ⟨[28], [], [32], [(.slot 44)]⟩ :: ⟨[32], [], [33], [(.slot 45)]⟩ :: ⟨[33], [], [34], [(.slot 46)]⟩ :: ⟨[33], [], [35], [(.slot 47)]⟩ :: ⟨[33], [], [36], [(.slot 48)]⟩ :: ⟨[33], [], [37], [(.slot 49)]⟩ :: ⟨[37], [], [38], [(.slot 0)]⟩ :: [])) (es' := [(0, .v (.bool false))]) (by kernel_rfl) rfl rfl
              ⟨st_plain rfl (op_move _ _ _ _ rfl rfl),
                st_plain rfl (op_bin _ _ _ _ _ rfl rfl rfl),
                st_plain rfl (op_move _ _ _ _ (congrArg (fun b => AV.v (Value.bool b)) hg4_2) rfl),
                st_run 2 19 true rfl rfl rfl (List.Mem.head _) (op_move _ _ _ _ rfl rfl),
                st_run 2 19 true rfl rfl rfl (List.Mem.head _) (op_bin _ _ _ _ _ rfl rfl rfl),
                st_plain rfl (op_pick _ _ true _ rfl rfl),
                st_plain rfl (op_move _ _ _ _ (congrArg (fun b => AV.v (Value.bool b)) hg4_6) rfl),
                st_run 6 23 true rfl rfl rfl (List.Mem.head _) (op_move _ _ _ _ rfl rfl),
                st_run 6 23 true rfl rfl rfl (List.Mem.head _) (op_len_fl _ _ _ Try.underlying22 rfl (by decide) (map_len _)),
                st_run 6 23 true rfl rfl rfl (List.Mem.head _) (op_bin _ _ _ _ _ rfl rfl rfl),
                st_plain rfl (op_pick _ _ true _ rfl rfl),
                st_plain rfl (op_move _ _ _ _ (congrArg (fun b => AV.v (Value.bool b)) hg4_11) rfl),
                st_run 11 28 true rfl rfl rfl (List.Mem.head _) (op_move _ _ _ _ rfl rfl),
                st_run 11 28 true rfl rfl rfl (List.Mem.head _) (op_ix _ _ _ _ _ _ _ _ Try.underlying22 sz5 (by decide) rfl rfl rfl (ix_ok hv3).1 (map_lt (ix_ok hv3).2) rfl),
                st_run 11 28 true rfl rfl rfl (List.Mem.head _) (op_load_e _ _ _ _ _ _ Try.underlying5 rfl rfl rfl (map_get hv4)),
                st_run 11 28 true rfl rfl rfl (List.Mem.head _) (op_bin _ _ _ _ _ rfl rfl rfl),
                st_plain rfl (op_pick _ _ true _ rfl rfl),
                st_plain rfl (op_move _ _ _ _ (congrArg (fun b => AV.v (Value.bool b)) hg4_17) rfl),
                st_skip 17 34 _ true rfl rfl rfl rfl (List.Mem.head _),
                st_skip 17 34 _ true rfl rfl rfl rfl (List.Mem.head _),
                st_skip 17 34 _ true rfl rfl rfl rfl (List.Mem.head _),
                st_skip 17 34 _ true rfl rfl rfl rfl (List.Mem.head _),
                st_plain rfl (op_pick _ _ false _ rfl rfl),
                st_plain rfl (op_move _ _ _ _ rfl rfl),
                st_skip 23 40 _ true rfl rfl rfl rfl (List.Mem.head _),
                st_skip 23 40 _ true rfl rfl rfl rfl (List.Mem.head _),
                st_skip 23 40 _ true rfl rfl rfl rfl (List.Mem.head _),
                st_plain rfl (op_pick _ _ false _ rfl rfl),
                st_plain rfl (op_move _ _ _ _ rfl rfl),
                st_skip 28 45 _ true rfl rfl rfl rfl (List.Mem.head _),
                st_skip 28 45 _ true rfl rfl rfl rfl (List.Mem.head _),
                st_skip 28 45 _ true rfl rfl rfl rfl (List.Mem.head _),
                st_plain rfl (op_pick _ _ false _ rfl rfl),
                st_plain rfl (op_assign _ _ _ _ rfl rfl),
                trivial⟩ ?_
            exact hl11 _ (Option.some.inj h).symm
        · refine ht_seqR hn (El := (_ :: _ :: _ :: _ :: _ :: (17, .v (.int .i64 v1.2)) :: (18, .v (.bool (v1.2 == 0))) :: (19, .v (.bool true)) :: (20, .v (.int .i64 v2.2)) :: (21, .v (.bool (v2.2 == 0))) :: (22, .v (.bool (v2.2 == 0))) :: (23, .v (.bool true)) :: (24, .same (.slot 2)) :: (25, .v (.int .i64 (v1.1.length : Int))) :: (26, .v (.bool (((v1.1.length : Int) == 9)))) :: (27, .v (.bool (((v1.1.length : Int) == 9)))) :: (28, .v (.bool false)) :: (29, .v undef) :: (30, .v undef) :: (31, .v undef) :: (32, .v undef) :: (33, .v (.bool false)) :: (34, .v (.bool false)) :: (35, .v undef) :: (36, .v undef) :: (37, .v undef) :: (38, .v undef) :: (39, .v (.bool false)) :: (40, .v (.bool false)) :: (41, .v undef) :: (42, .v undef) :: (43, .v undef) :: (44, .v (.bool false)) :: (45, .v (.bool false)) :: (46, .v undef) :: (47, .v undef) :: (48, .v undef) :: (49, .v (.bool false)) :: (0, .v (.bool false)) :: [])) (init := [0, 1, 2, 3, 4]) (fin := [38]) (sps := (⟨[2], [], [5], [(.slot 17)]⟩ :: ⟨[5], [], [6], [(.slot 18)]⟩ :: ⟨[6], [], [7], [(.slot 19)]⟩ :: ⟨[7, 4], [], [8], [(.slot 20)]⟩ :: ⟨[7, 8], [], [9], [(.slot 21)]⟩ :: ⟨[7, 9], [], [10], [(.slot 22)]⟩ :: ⟨[10], [], [11], [(.slot 23)]⟩ :: ⟨[11, 1], [], [12], [(.slot 24)]⟩ :: ⟨[11, 12, 1], [], [13], [(.slot 25)]⟩ :: ⟨[11, 13], [], [14], [(.slot 26)]⟩ :: ⟨[11, 14], [], [15], [(.slot 27)]⟩ :: ⟨[15], [], [16], [(.slot 28)]⟩ :: ⟨[16], [], [17], [(.slot 29)]⟩ :: ⟨[16], [], [18], [(.slot 30)]⟩ :: ⟨[16], [], [19], [(.slot 31)]⟩ :: ⟨[16], [], [20], [(.slot 32)]⟩ :: ⟨[16], [], [21], [(.slot 33)]⟩ :: ⟨[21], [], [22], [(.slot 34)]⟩ :: ⟨[22], [], [23], [(.slot 35)]⟩ :: ⟨[22], [], [24], [(.slot 36)]⟩ :: ⟨[22], [], [25], [(.slot 37)]⟩ :: ⟨[22], [], [26], [(.slot 38)]⟩ :: ⟨[22], [], [27], [(.slot 39)]⟩ :: ⟨[27], [], [28], [(.slot 40)]⟩ :: ⟨[28], [], [29], [(.slot 41)]⟩ :: ⟨[28], [], [30], [(.slot 42)]⟩ :: ⟨[28], [], [31], [(.slot 43)]⟩ :: ⟨[28], [], [32], [(.slot 44)]⟩ :: ⟨[32], [], [33], [(.slot 45)]⟩ :: ⟨[33], [], [34], [(.slot 46)]⟩ :: ⟨[33], [], [35], [(.slot 47)]⟩ :: ⟨[33], [], [36], [(.slot 48)]⟩ :: ⟨[33], [], [37], [(.slot 49)]⟩ :: ⟨[37], [], [38], [(.slot 0)]⟩ :: [])) (es' := [(0, .v (.bool false))]) (by kernel_rfl) rfl rfl
            ⟨st_plain rfl (op_move _ _ _ _ rfl rfl),
              st_plain rfl (op_bin _ _ _ _ _ rfl rfl rfl),
              st_plain rfl (op_move _ _ _ _ (congrArg (fun b => AV.v (Value.bool b)) hg4_2) rfl),
              st_run 2 19 true rfl rfl rfl (List.Mem.head _) (op_move _ _ _ _ rfl rfl),
              st_run 2 19 true rfl rfl rfl (List.Mem.head _) (op_bin _ _ _ _ _ rfl rfl rfl),
              st_plain rfl (op_pick _ _ true _ rfl rfl),
              st_plain rfl (op_move _ _ _ _ (congrArg (fun b => AV.v (Value.bool b)) hg4_6) rfl),
              st_run 6 23 true rfl rfl rfl (List.Mem.head _) (op_move _ _ _ _ rfl rfl),
              st_run 6 23 true rfl rfl rfl (List.Mem.head _) (op_len_fl _ _ _ Try.underlying22 rfl (by decide) (map_len _)),
              st_run 6 23 true rfl rfl rfl (List.Mem.head _) (op_bin _ _ _ _ _ rfl rfl rfl),
              st_plain rfl (op_pick _ _ true _ rfl rfl),
              st_plain rfl (op_move _ _ _ _ (congrArg (fun b => AV.v (Value.bool b)) hg4_11) rfl),
              st_skip 11 28 _ true rfl rfl rfl rfl (List.Mem.head _),
              st_skip 11 28 _ true rfl rfl rfl rfl (List.Mem.head _),
              st_skip 11 28 _ true rfl rfl rfl rfl (List.Mem.head _),
              st_skip 11 28 _ true rfl rfl rfl rfl (List.Mem.head _),
              st_plain rfl (op_pick _ _ false _ rfl rfl),
              st_plain rfl (op_move _ _ _ _ rfl rfl),
              st_skip 17 34 _ true rfl rfl rfl rfl (List.Mem.head _),
              st_skip 17 34 _ true rfl rfl rfl rfl (List.Mem.head _),
              st_skip 17 34 _ true rfl rfl rfl rfl (List.Mem.head _),
              st_skip 17 34 _ true rfl rfl rfl rfl (List.Mem.head _),
              st_plain rfl (op_pick _ _ false _ rfl rfl),
              st_plain rfl (op_move _ _ _ _ rfl rfl),
              st_skip 23 40 _ true rfl rfl rfl rfl (List.Mem.head _),
              st_skip 23 40 _ true rfl rfl rfl rfl (List.Mem.head _),
              st_skip 23 40 _ true rfl rfl rfl rfl (List.Mem.head _),
              st_plain rfl (op_pick _ _ false _ rfl rfl),
              st_plain rfl (op_move _ _ _ _ rfl rfl),
              st_skip 28 45 _ true rfl rfl rfl rfl (List.Mem.head _),
              st_skip 28 45 _ true rfl rfl rfl rfl (List.Mem.head _),
              st_skip 28 45 _ true rfl rfl rfl rfl (List.Mem.head _),
              st_plain rfl (op_pick _ _ false _ rfl rfl),
              st_plain rfl (op_assign _ _ _ _ rfl rfl),
              trivial⟩ ?_
          exact hl11 _ (Option.some.inj h).symm
      · refine ht_seqR hn (El := (_ :: _ :: _ :: _ :: _ :: (17, .v (.int .i64 v1.2)) :: (18, .v (.bool (v1.2 == 0))) :: (19, .v (.bool true)) :: (20, .v (.int .i64 v2.2)) :: (21, .v (.bool (v2.2 == 0))) :: (22, .v (.bool (v2.2 == 0))) :: (23, .v (.bool false)) :: (24, .v undef) :: (25, .v undef) :: (26, .v undef) :: (27, .v (.bool false)) :: (28, .v (.bool false)) :: (29, .v undef) :: (30, .v undef) :: (31, .v undef) :: (32, .v undef) :: (33, .v (.bool false)) :: (34, .v (.bool false)) :: (35, .v undef) :: (36, .v undef) :: (37, .v undef) :: (38, .v undef) :: (39, .v (.bool false)) :: (40, .v (.bool false)) :: (41, .v undef) :: (42, .v undef) :: (43, .v undef) :: (44, .v (.bool false)) :: (45, .v (.bool false)) :: (46, .v undef) :: (47, .v undef) :: (48, .v undef) :: (49, .v (.bool false)) :: (0, .v (.bool false)) :: [])) (init := [0, 1, 2, 3, 4]) (fin := [38]) (sps := (⟨[2], [], [5], [(.slot 17)]⟩ :: ⟨[5], [], [6], [(.slot 18)]⟩ :: ⟨[6], [], [7], [(.slot 19)]⟩ :: ⟨[7, 4], [], [8], [(.slot 20)]⟩ :: ⟨[7, 8], [], [9], [(.slot 21)]⟩ :: ⟨[7, 9], [], [10], [(.slot 22)]⟩ :: ⟨[10], [], [11], [(.slot 23)]⟩ :: ⟨[11], [], [12], [(.slot 24)]⟩ :: ⟨[11], [], [13], [(.slot 25)]⟩ :: ⟨[11], [], [14], [(.slot 26)]⟩ :: ⟨[11], [], [15], [(.slot 27)]⟩ :: ⟨[15], [], [16], [(.slot 28)]⟩ :: ⟨[16], [], [17], [(.slot 29)]⟩ :: ⟨[16], [], [18], [(.slot 30)]⟩ :: ⟨[16], [], [19], [(.slot 31)]⟩ :: ⟨[16], [], [20], [(.slot 32)]⟩ :: ⟨[16], [], [21], [(.slot 33)]⟩ :: ⟨[21], [], [22], [(.slot 34)]⟩ :: ⟨[22], [], [23], [(.slot 35)]⟩ :: ⟨[22], [], [24], [(.slot 36)]⟩ :: ⟨[22], [], [25], [(.slot 37)]⟩ :: ⟨[22], [], [26], [(.slot 38)]⟩ :: ⟨[22], [], [27], [(.slot 39)]⟩ :: ⟨[27], [], [28], [(.slot 40)]⟩ :: ⟨[28], [], [29], [(.slot 41)]⟩ :: ⟨[28], [], [30], [(.slot 42)]⟩ :: ⟨[28], [], [31], [(.slot 43)]⟩ :: ⟨[28], [], [32], [(.slot 44)]⟩ :: ⟨[32], [], [33], [(.slot 45)]⟩ :: ⟨[33], [], [34], [(.slot 46)]⟩ :: ⟨[33], [], [35], [(.slot 47)]⟩ :: ⟨[33], [], [36], [(.slot 48)]⟩ :: ⟨[33], [], [37], [(.slot 49)]⟩ :: ⟨[37], [], [38], [(.slot 0)]⟩ :: [])) (es' := [(0, .v (.bool false))]) (by kernel_rfl) rfl rfl
          ⟨st_plain rfl (op_move _ _ _ _ rfl rfl),
            st_plain rfl (op_bin _ _ _ _ _ rfl rfl rfl),
            st_plain rfl (op_move _ _ _ _ (congrArg (fun b => AV.v (Value.bool b)) hg4_2) rfl),
            st_run 2 19 true rfl rfl rfl (List.Mem.head _) (op_move _ _ _ _ rfl rfl),
            st_run 2 19 true rfl rfl rfl (List.Mem.head _) (op_bin _ _ _ _ _ rfl rfl rfl),
            st_plain rfl (op_pick _ _ true _ rfl rfl),
            st_plain rfl (op_move _ _ _ _ (congrArg (fun b => AV.v (Value.bool b)) hg4_6) rfl),
            st_skip 6 23 _ true rfl rfl rfl rfl (List.Mem.head _),
            st_skip 6 23 _ true rfl rfl rfl rfl (List.Mem.head _),
            st_skip 6 23 _ true rfl rfl rfl rfl (List.Mem.head _),
            st_plain rfl (op_pick _ _ false _ rfl rfl),
            st_plain rfl (op_move _ _ _ _ rfl rfl),
            st_skip 11 28 _ true rfl rfl rfl rfl (List.Mem.head _),
            st_skip 11 28 _ true rfl rfl rfl rfl (List.Mem.head _),
            st_skip 11 28 _ true rfl rfl rfl rfl (List.Mem.head _),
            st_skip 11 28 _ true rfl rfl rfl rfl (List.Mem.head _),
            st_plain rfl (op_pick _ _ false _ rfl rfl),
            st_plain rfl (op_move _ _ _ _ rfl rfl),
            st_skip 17 34 _ true rfl rfl rfl rfl (List.Mem.head _),
            st_skip 17 34 _ true rfl rfl rfl rfl (List.Mem.head _),
            st_skip 17 34 _ true rfl rfl rfl rfl (List.Mem.head _),
            st_skip 17 34 _ true rfl rfl rfl rfl (List.Mem.head _),
            st_plain rfl (op_pick _ _ false _ rfl rfl),
            st_plain rfl (op_move _ _ _ _ rfl rfl),
            st_skip 23 40 _ true rfl rfl rfl rfl (List.Mem.head _),
            st_skip 23 40 _ true rfl rfl rfl rfl (List.Mem.head _),
            st_skip 23 40 _ true rfl rfl rfl rfl (List.Mem.head _),
            st_plain rfl (op_pick _ _ false _ rfl rfl),
            st_plain rfl (op_move _ _ _ _ rfl rfl),
            st_skip 28 45 _ true rfl rfl rfl rfl (List.Mem.head _),
            st_skip 28 45 _ true rfl rfl rfl rfl (List.Mem.head _),
            st_skip 28 45 _ true rfl rfl rfl rfl (List.Mem.head _),
            st_plain rfl (op_pick _ _ false _ rfl rfl),
            st_plain rfl (op_assign _ _ _ _ rfl rfl),
            trivial⟩ ?_
        exact hl11 _ (Option.some.inj h).symm
    · refine ht_seqR hn (El := (_ :: _ :: _ :: _ :: _ :: (17, .v (.int .i64 v1.2)) :: (18, .v (.bool (v1.2 == 0))) :: (19, .v (.bool false)) :: (20, .v undef) :: (21, .v undef) :: (22, .v (.bool false)) :: (23, .v (.bool false)) :: (24, .v undef) :: (25, .v undef) :: (26, .v undef) :: (27, .v (.bool false)) :: (28, .v (.bool false)) :: (29, .v undef) :: (30, .v undef) :: (31, .v undef) :: (32, .v undef) :: (33, .v (.bool false)) :: (34, .v (.bool false)) :: (35, .v undef) :: (36, .v undef) :: (37, .v undef) :: (38, .v undef) :: (39, .v (.bool false)) :: (40, .v (.bool false)) :: (41, .v undef) :: (42, .v undef) :: (43, .v undef) :: (44, .v (.bool false)) :: (45, .v (.bool false)) :: (46, .v undef) :: (47, .v undef) :: (48, .v undef) :: (49, .v (.bool false)) :: (0, .v (.bool false)) :: [])) (init := [0, 1, 2, 3, 4]) (fin := [38]) (sps := (⟨[2], [], [5], [(.slot 17)]⟩ :: ⟨[5], [], [6], [(.slot 18)]⟩ :: ⟨[6], [], [7], [(.slot 19)]⟩ :: ⟨[7], [], [8], [(.slot 20)]⟩ :: ⟨[7], [], [9], [(.slot 21)]⟩ :: ⟨[7], [], [10], [(.slot 22)]⟩ :: ⟨[10], [], [11], [(.slot 23)]⟩ :: ⟨[11], [], [12], [(.slot 24)]⟩ :: ⟨[11], [], [13], [(.slot 25)]⟩ :: ⟨[11], [], [14], [(.slot 26)]⟩ :: ⟨[11], [], [15], [(.slot 27)]⟩ :: ⟨[15], [], [16], [(.slot 28)]⟩ :: ⟨[16], [], [17], [(.slot 29)]⟩ :: ⟨[16], [], [18], [(.slot 30)]⟩ :: ⟨[16], [], [19], [(.slot 31)]⟩ :: ⟨[16], [], [20], [(.slot 32)]⟩ :: ⟨[16], [], [21], [(.slot 33)]⟩ :: ⟨[21], [], [22], [(.slot 34)]⟩ :: ⟨[22], [], [23], [(.slot 35)]⟩ :: ⟨[22], [], [24], [(.slot 36)]⟩ :: ⟨[22], [], [25], [(.slot 37)]⟩ :: ⟨[22], [], [26], [(.slot 38)]⟩ :: ⟨[22], [], [27], [(.slot 39)]⟩ :: ⟨[27], [], [28], [(.slot 40)]⟩ :: ⟨[28], [], [29], [(.slot 41)]⟩ :: ⟨[28], [], [30], [(.slot 42)]⟩ :: ⟨[28], [], [31], [(.slot 43)]⟩ :: ⟨[28], [], [32], [(.slot 44)]⟩ :: ⟨[32], [], [33], [(.slot 45)]⟩ :: ⟨[33], [], [34], [(.slot 46)]⟩ :: ⟨[33], [], [35], [(.slot 47)]⟩ :: ⟨[33], [], [36], [(.slot 48)]⟩ :: ⟨[33], [], [37], [(.slot 49)]⟩ :: ⟨[37], [], [38], [(.slot 0)]⟩ :: [])) (es' := [(0, .v (.bool false))]) (by kernel_rfl) rfl rfl
        ⟨st_plain rfl (op_move _ _ _ _ rfl rfl),
          st_plain rfl (op_bin _ _ _ _ _ rfl rfl rfl),
          st_plain rfl (op_move _ _ _ _ (congrArg (fun b => AV.v (Value.bool b)) hg4_2) rfl),
          st_skip 2 19 _ true rfl rfl rfl rfl (List.Mem.head _),
          st_skip 2 19 _ true rfl rfl rfl rfl (List.Mem.head _),
          st_plain rfl (op_pick _ _ false _ rfl rfl),
          st_plain rfl (op_move _ _ _ _ rfl rfl),
          st_skip 6 23 _ true rfl rfl rfl rfl (List.Mem.head _),
          st_skip 6 23 _ true rfl rfl rfl rfl (List.Mem.head _),
          st_skip 6 23 _ true rfl rfl rfl rfl (List.Mem.head _),
          st_plain rfl (op_pick _ _ false _ rfl rfl),
          st_plain rfl (op_move _ _ _ _ rfl rfl),
          st_skip 11 28 _ true rfl rfl rfl rfl (List.Mem.head _),
          st_skip 11 28 _ true rfl rfl rfl rfl (List.Mem.head _),
          st_skip 11 28 _ true rfl rfl rfl rfl (List.Mem.head _),
          st_skip 11 28 _ true rfl rfl rfl rfl (List.Mem.head _),
          st_plain rfl (op_pick _ _ false _ rfl rfl),
          st_plain rfl (op_move _ _ _ _ rfl rfl),
          st_skip 17 34 _ true rfl rfl rfl rfl (List.Mem.head _),
          st_skip 17 34 _ true rfl rfl rfl rfl (List.Mem.head _),
          st_skip 17 34 _ true rfl rfl rfl rfl (List.Mem.head _),
          st_skip 17 34 _ true rfl rfl rfl rfl (List.Mem.head _),
          st_plain rfl (op_pick _ _ false _ rfl rfl),
          st_plain rfl (op_move _ _ _ _ rfl rfl),
          st_skip 23 40 _ true rfl rfl rfl rfl (List.Mem.head _),
          st_skip 23 40 _ true rfl rfl rfl rfl (List.Mem.head _),
          st_skip 23 40 _ true rfl rfl rfl rfl (List.Mem.head _),
          st_plain rfl (op_pick _ _ false _ rfl rfl),
          st_plain rfl (op_move _ _ _ _ rfl rfl),
          st_skip 28 45 _ true rfl rfl rfl rfl (List.Mem.head _),
          st_skip 28 45 _ true rfl rfl rfl rfl (List.Mem.head _),
          st_skip 28 45 _ true rfl rfl rfl rfl (List.Mem.head _),
          st_plain rfl (op_pick _ _ false _ rfl rfl),
          st_plain rfl (op_assign _ _ _ _ rfl rfl),
          trivial⟩ ?_
      exact hl11 _ (Option.some.inj h).symm

end Go.Proofs.Ytenfngliiibiiaa
