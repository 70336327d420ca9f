/-
  The model's runs are what is told in Lean.
-/
import Derived.Test.YtenfngliiibiiaaProg
import Derived.KernelRfl
import Derived.Test.YtenfngliiibiiaaOk1
set_option linter.unusedVariables false
namespace Go.Proofs.Ytenfngliiibiiaa
open Go.Abs Go.Abs.Sh

set_option maxHeartbeats 1000000 in
theorem ok_wherrylaw20_FrameBack (f : T_Frame) (g : T_Frame) (b : (List Int)) (r : Bool) (h : Sh.wherrylaw20_FrameBack f g b = some r) : FnOK Try.prog 4 [.agg [.v (.int .i64 f.Kind), .v (.int .i64 f.Number), .v (.int .i64 f.Offset), .v (.int .i64 f.Seq), .fl .shr 1 (List.map (Value.int .u8) f.Data)], .agg [.v (.int .i64 g.Kind), .v (.int .i64 g.Number), .v (.int .i64 g.Offset), .v (.int .i64 g.Seq), .fl .shr 1 (List.map (Value.int .u8) g.Data)], .fl .shr 1 (List.map (Value.int .u8) b)] (.v (.bool r)) := by
  unfold Sh.wherrylaw20_FrameBack at h
  refine fn_ok Try.func4 rfl (Nat.le_of_ble_eq_true rfl) rfl rfl fun g0 hn hio => ?_
  refine ht_seq ?_
  refine ht_seqR hn (El := [_, _, _, (3, .box 24 [.v (.int .i64 f.Kind), .v (.int .i64 f.Number), .v (.int .i64 f.Offset), .v (.int .i64 f.Seq), .fl .shr 1 (List.map (Value.int .u8) f.Data)]), (4, .box 24 [.v (.int .i64 g.Kind), .v (.int .i64 g.Number), .v (.int .i64 g.Offset), .v (.int .i64 g.Seq), .fl .shr 1 (List.map (Value.int .u8) g.Data)]), (6, .v (.bool false))]) (init := [0, 1, 2]) (fin := [2, 3, 4]) (sps := [⟨[0], [], [3], [(.slot 3)]⟩, ⟨[1], [], [4], [(.slot 4)]⟩, ⟨[], [], [5], [(.slot 6)]⟩]) (es' := [(_, _), (3, .box 24 [.v (.int .i64 f.Kind), .v (.int .i64 f.Number), .v (.int .i64 f.Offset), .v (.int .i64 f.Seq), .fl .shr 1 (List.map (Value.int .u8) f.Data)]), (4, .box 24 [.v (.int .i64 g.Kind), .v (.int .i64 g.Number), .v (.int .i64 g.Offset), .v (.int .i64 g.Seq), .fl .shr 1 (List.map (Value.int .u8) g.Data)])]) (by kernel_rfl) rfl rfl
    ⟨st_plain rfl (op_box _ _ _ _ rfl rfl rfl),
      st_plain rfl (op_box _ _ _ _ rfl rfl rfl),
      st_plain rfl (op_assign _ _ _ _ rfl rfl),
      trivial⟩ ?_
  refine pt_then ?_
  refine ht_seq ?_
  refine ht_seq ?_
  refine ht_joinS h (fun (s1 : Bool) => [(2, .fl .shr 1 (List.map (Value.int .u8) b)), (3, .box 24 [.v (.int .i64 f.Kind), .v (.int .i64 f.Number), .v (.int .i64 f.Offset), .v (.int .i64 f.Seq), .fl .shr 1 (List.map (Value.int .u8) f.Data)]), (4, .box 24 [.v (.int .i64 g.Kind), .v (.int .i64 g.Number), .v (.int .i64 g.Offset), .v (.int .i64 g.Seq), .fl .shr 1 (List.map (Value.int .u8) g.Data)]), (31, .v (.bool s1))]) ?_ ?_
  · rintro s1 h
    refine pt_then ?_
    refine ht_cond _ rfl (fun hb5 => ?_) (fun hb5 => ?_)
    · have h := cond_t hb5 h
      refine ht_seq ?_
      refine ht_seqR hn (El := [_, _, _, _, (6, .v (.bool true))]) (init := [0, 1, 2, 3]) (fin := [4]) (sps := [⟨[], [], [4], [(.slot 6)]⟩]) (es' := [(6, .v (.bool true))]) (by kernel_rfl) rfl rfl
        ⟨st_plain rfl (op_assign _ _ _ _ rfl rfl),
          trivial⟩ ?_
      refine pt_then ?_
      refine ht_ret ?_
      refine pt_r_then ?_
      obtain rfl := Option.some.inj h
      exact pt_ret hio rfl (.tmp _ _ .nil) rfl rfl
    · have h := cond_f hb5 h
      refine ht_skip ?_
      refine pt_then ?_
      refine ht_seq ?_
      obtain ⟨v6, hv6, h⟩ := bind_some h
      refine ht_seqR hn (El := [_, _, _, _, (33, .agg [.v (.int .i64 f.Kind), .v (.int .i64 f.Number), .v (.int .i64 f.Offset), .v (.int .i64 f.Seq), .fl .shr 1 (List.map (Value.int .u8) f.Data)]), (34, .tup [.fl (.own 5) 1 (List.map (Value.int .u8) v6.1), .v (.int .i64 v6.2)]), (32, .tup [.fl (.own 5) 1 (List.map (Value.int .u8) v6.1), .v (.int .i64 v6.2)]), (35, .fl (.own 5) 1 (List.map (Value.int .u8) v6.1)), (32, .tup [.any, .v (.int .i64 v6.2)]), (36, .v (.int .i64 v6.2)), (7, .fl (.own 5) 1 (List.map (Value.int .u8) v6.1)), (8, .v (.int .i64 v6.2))]) (init := [0, 1, 2, 3]) (fin := [0, 1, 2, 10, 11]) (sps := [⟨[1], [], [4], [(.slot 33)]⟩, ⟨[4], [], [5], [(.slot 34)]⟩, ⟨[], [5], [6], [(.slot 32)]⟩, ⟨[], [6], [8, 7], [(.slot 35)]⟩, ⟨[8], [], [9], [(.slot 36)]⟩, ⟨[], [7], [10], [(.slot 7)]⟩, ⟨[9], [], [11], [(.slot 8)]⟩]) (es' := [(_, _), (_, _), (_, _), (7, .fl (.own 5) 1 (List.map (Value.int .u8) v6.1)), (8, .v (.int .i64 v6.2))]) (by kernel_rfl) rfl rfl
        ⟨st_plain rfl (op_loadA _ _ _ _ _ _ _ Try.underlying24 rfl sz24 rfl rfl (Nat.le_of_ble_eq_true rfl) rfl rfl),
          st_plain rfl (op_call _ _ 12 _ _ rfl Try.call12 rfl (ok_frame_Bytes f _ hv6) rfl rfl),
          st_plain rfl (op_move_take _ _ _ _ rfl),
          st_plain rfl (op_extract_take _ _ _ _ _ rfl (Nat.le_of_ble_eq_true rfl) rfl rfl (by decide) rfl),
          st_plain rfl (op_extract _ _ _ _ _ rfl rfl (Nat.le_of_ble_eq_true rfl) rfl rfl),
          st_plain rfl (op_assign_take _ _ _ _ rfl),
          st_plain rfl (op_assign _ _ _ _ rfl rfl),
          trivial⟩ ?_
      refine pt_then ?_
      refine ht_seq ?_
      obtain ⟨v7, hv7, h⟩ := bind_some h
      refine ht_seqR hn (El := [_, _, _, _, _, (38, .agg [.v (.int .i64 g.Kind), .v (.int .i64 g.Number), .v (.int .i64 g.Offset), .v (.int .i64 g.Seq), .fl .shr 1 (List.map (Value.int .u8) g.Data)]), (39, .tup [.fl (.own 5) 1 (List.map (Value.int .u8) v7.1), .v (.int .i64 v7.2)]), (37, .tup [.fl (.own 5) 1 (List.map (Value.int .u8) v7.1), .v (.int .i64 v7.2)]), (40, .fl (.own 5) 1 (List.map (Value.int .u8) v7.1)), (37, .tup [.any, .v (.int .i64 v7.2)]), (41, .v (.int .i64 v7.2)), (9, .fl (.own 5) 1 (List.map (Value.int .u8) v7.1)), (10, .v (.int .i64 v7.2))]) (init := [0, 1, 2, 3, 4]) (fin := [0, 1, 2, 3, 4, 11, 12]) (sps := [⟨[2], [], [5], [(.slot 38)]⟩, ⟨[5], [], [6], [(.slot 39)]⟩, ⟨[], [6], [7], [(.slot 37)]⟩, ⟨[], [7], [9, 8], [(.slot 40)]⟩, ⟨[9], [], [10], [(.slot 41)]⟩, ⟨[], [8], [11], [(.slot 9)]⟩, ⟨[10], [], [12], [(.slot 10)]⟩]) (es' := [(_, _), (_, _), (_, _), (_, _), (_, _), (9, .fl (.own 5) 1 (List.map (Value.int .u8) v7.1)), (10, .v (.int .i64 v7.2))]) (by kernel_rfl) rfl rfl
        ⟨st_plain rfl (op_loadA _ _ _ _ _ _ _ Try.underlying24 rfl sz24 rfl rfl (Nat.le_of_ble_eq_true rfl) rfl rfl),
          st_plain rfl (op_call _ _ 12 _ _ rfl Try.call12 rfl (ok_frame_Bytes g _ hv7) rfl rfl),
          st_plain rfl (op_move_take _ _ _ _ rfl),
          st_plain rfl (op_extract_take _ _ _ _ _ rfl (Nat.le_of_ble_eq_true rfl) rfl rfl (by decide) rfl),
          st_plain rfl (op_extract _ _ _ _ _ rfl rfl (Nat.le_of_ble_eq_true rfl) rfl rfl),
          st_plain rfl (op_assign_take _ _ _ _ rfl),
          st_plain rfl (op_assign _ _ _ _ rfl rfl),
          trivial⟩ ?_
      refine pt_then ?_
      refine ht_seq ?_
      refine ht_joinS h (fun (() : Unit) => [(2, .fl .shr 1 (List.map (Value.int .u8) b))]) ?_ ?_
      · rintro ⟨⟩ h
        refine pt_then ?_
        refine ht_seq ?_
        obtain ⟨v28, hv28, h⟩ := bind_some h
        refine ht_seqR hn (El := [_, (71, .fl .shr 1 (List.map (Value.int .u8) b)), (72, .tup [.agg [.v (.int .i64 v28.1.Kind), .v (.int .i64 v28.1.Number), .v (.int .i64 v28.1.Offset), .v (.int .i64 v28.1.Seq), .fl (.own 5) 1 (List.map (Value.int .u8) v28.1.Data)], .v (.int .i64 v28.2)]), (70, .tup [.agg [.v (.int .i64 v28.1.Kind), .v (.int .i64 v28.1.Number), .v (.int .i64 v28.1.Offset), .v (.int .i64 v28.1.Seq), .fl (.own 5) 1 (List.map (Value.int .u8) v28.1.Data)], .v (.int .i64 v28.2)]), (73, .agg [.v (.int .i64 v28.1.Kind), .v (.int .i64 v28.1.Number), .v (.int .i64 v28.1.Offset), .v (.int .i64 v28.1.Seq), .fl (.own 5) 1 (List.map (Value.int .u8) v28.1.Data)]), (70, .tup [.any, .v (.int .i64 v28.2)]), (74, .v (.int .i64 v28.2)), (13, .box 24 [.v (.int .i64 0), .v (.int .i64 0), .v (.int .i64 0), .v (.int .i64 0), .v (.slice none 0 0)]), (13, .box 24 [.v (.int .i64 v28.1.Kind), .v (.int .i64 v28.1.Number), .v (.int .i64 v28.1.Offset), .v (.int .i64 v28.1.Seq), .fl (.own 5) 1 (List.map (Value.int .u8) v28.1.Data)]), (14, .v (.int .i64 v28.2))]) (init := [0]) (fin := [0, 8, 9]) (sps := [⟨[0], [], [1], [(.slot 71)]⟩, ⟨[1], [], [2], [(.slot 72)]⟩, ⟨[], [2], [3], [(.slot 70)]⟩, ⟨[], [3], [5, 4], [(.slot 73)]⟩, ⟨[5], [], [6], [(.slot 74)]⟩, ⟨[], [], [7], [(.slot 13)]⟩, ⟨[], [4, 7], [8], [.cell 13 0, .cell 13 1, .cell 13 2, .cell 13 3, .cell 13 4]⟩, ⟨[6], [], [9], [(.slot 14)]⟩]) (es' := [(_, _), (13, .box 24 [.v (.int .i64 v28.1.Kind), .v (.int .i64 v28.1.Number), .v (.int .i64 v28.1.Offset), .v (.int .i64 v28.1.Seq), .fl (.own 5) 1 (List.map (Value.int .u8) v28.1.Data)]), (14, .v (.int .i64 v28.2))]) (by kernel_rfl) rfl rfl
          ⟨st_plain rfl (op_move _ _ _ _ rfl rfl),
            st_plain rfl (op_call _ _ 13 _ _ rfl Try.call13 rfl (ok_frame_Read b _ hv28) rfl rfl),
            st_plain rfl (op_move_take _ _ _ _ rfl),
            st_plain rfl (op_extract_take _ _ _ _ _ rfl (Nat.le_of_ble_eq_true rfl) rfl rfl (by decide) rfl),
            st_plain rfl (op_extract _ _ _ _ _ rfl rfl (Nat.le_of_ble_eq_true rfl) rfl rfl),
            st_plain rfl (op_alloc _ _ zr24),
            st_plain rfl (op_store_take _ _ _ _ _ _ _ _ sz24 rfl rfl rfl (Nat.le_of_ble_eq_true rfl) rfl rfl),
            st_plain rfl (op_assign _ _ _ _ rfl rfl),
            trivial⟩ ?_
        refine pt_then ?_
        refine ht_seq ?_
        refine ht_seq ?_
        refine ht_seqR hn (El := [_, _, _, (75, .v (.int .i64 v28.2)), (76, .v (.bool (v28.2 != 0)))]) (init := [0, 1, 2]) (fin := [0, 1, 2, 4]) (sps := [⟨[2], [], [3], [(.slot 75)]⟩, ⟨[3], [], [4], [(.slot 76)]⟩]) (es' := [(_, _), (_, _), (_, _), (76, .v (.bool (v28.2 != 0)))]) (by kernel_rfl) rfl rfl
          ⟨st_plain rfl (op_move _ _ _ _ rfl rfl),
            st_plain rfl (op_bin _ _ _ _ _ rfl rfl rfl),
            trivial⟩ ?_
        refine pt_then ?_
        refine ht_cond _ rfl (fun hb29 => ?_) (fun hb29 => ?_)
        · have h := cond_t hb29 h
          refine ht_seq ?_
          refine ht_joinS h (fun (s34 : Bool) => [(6, .v (.bool s34))]) ?_ ?_
          · rintro s34 h
            refine pt_then ?_
            refine ht_ret ?_
            refine pt_r_then ?_
            obtain rfl := Option.some.inj h
            exact pt_ret hio rfl (.tmp _ _ .nil) rfl rfl
          · intro u35 h hl36 hr37
            refine cond_some h (fun hg11_2 h => ?_) (fun hg11_2 h => ?_)
            · obtain ⟨v30, hv30, h⟩ := bind_some h
              refine cond_some h (fun hg11_11 h => ?_) (fun hg11_11 h => ?_)
              · obtain ⟨v31, hv31, h⟩ := bind_some h
                refine ht_seqR hn (El := (_ :: _ :: _ :: _ :: (77, .v (.int .i64 v28.2)) :: (78, .v (.bool (v28.2 == 3))) :: (79, .v (.bool true)) :: (80, .v undef) :: (81, .v undef) :: (82, .v (.bool true)) :: (83, .v (.bool true)) :: (84, .agg [.v (.int .i64 v28.1.Kind), .v (.int .i64 v28.1.Number), .v (.int .i64 v28.1.Offset), .v (.int .i64 v28.1.Seq), .fl (.own 5) 1 (List.map (Value.int .u8) v28.1.Data)]) :: (85, .agg [.v (.int .i64 0), .v (.int .i64 0), .v (.int .i64 0), .v (.int .i64 0), .v (.slice none 0 0)]) :: (86, .v (.bool v30)) :: (87, .v (.bool v30)) :: (88, .v (.bool true)) :: (89, .v (.bool v31)) :: (90, .v (.bool v31)) :: (6, .v (.bool v31)) :: [])) (init := [0, 1, 2, 3]) (fin := [18]) (sps := (⟨[2], [], [4], [(.slot 77)]⟩ :: ⟨[4], [], [5], [(.slot 78)]⟩ :: ⟨[5], [], [6], [(.slot 79)]⟩ :: ⟨[6], [], [7], [(.slot 80)]⟩ :: ⟨[6], [], [8], [(.slot 81)]⟩ :: ⟨[6], [], [9], [(.slot 82)]⟩ :: ⟨[9], [], [10], [(.slot 83)]⟩ :: ⟨[10], [1], [11], [(.slot 84)]⟩ :: ⟨[10], [], [12], [(.slot 85)]⟩ :: ⟨[10, 11, 12], [], [13], [(.slot 86)]⟩ :: ⟨[10, 13], [], [14], [(.slot 87)]⟩ :: ⟨[14], [], [15], [(.slot 88)]⟩ :: ⟨[15], [], [16], [(.slot 89)]⟩ :: ⟨[15, 16], [], [17], [(.slot 90)]⟩ :: ⟨[17], [], [18], [(.slot 6)]⟩ :: [])) (es' := [(6, .v (.bool v31))]) (by kernel_rfl) rfl rfl
                  ⟨st_plain rfl (op_move _ _ _ _ rfl rfl),
                    st_plain rfl (op_bin _ _ _ _ _ rfl rfl rfl),
                    st_plain rfl (op_move _ _ _ _ (congrArg (fun b => AV.v (Value.bool b)) hg11_2) rfl),
                    st_skip 2 79 _ false rfl rfl rfl rfl (List.Mem.head _),
                    st_skip 2 79 _ false rfl rfl rfl rfl (List.Mem.head _),
                    st_plain rfl (op_pick _ _ true _ rfl rfl),
                    st_plain rfl (op_move _ _ _ _ rfl rfl),
                    st_run 6 83 true rfl rfl rfl (List.Mem.head _) (op_loadA_take _ _ _ _ Try.underlying24 rfl sz24 rfl rfl),
                    st_run 6 83 true rfl rfl rfl (List.Mem.head _) (op_build _ _ _ _ [1, 1, 1, 1, 1] _ _ Try.underlying24 zr24 (fs24 _ Try.underlying24) Src.nil rfl rfl rfl),
                    st_run 6 83 true rfl rfl rfl (List.Mem.head _) (op_call _ _ 19 _ _ rfl Try.call19 rfl ((ok_wherrykeep_Frame v28.1 (T_Frame.mk 0 0 0 0 []) _ hv30).args (subs_cons (sub_refl _) (subs_cons (sub_agg (subs_cons (sub_refl _) (subs_cons (sub_refl _) (subs_cons (sub_refl _) (subs_cons (sub_refl _) (subs_cons (sub_nil_shr 1) (subs_nil))))))) (subs_nil)))) rfl rfl),
                    st_plain rfl (op_pick _ _ true _ rfl rfl),
                    st_plain rfl (op_move _ _ _ _ (congrArg (fun b => AV.v (Value.bool b)) hg11_11) rfl),
                    st_run 11 88 true rfl rfl rfl (List.Mem.head _) (op_call _ _ 23 _ _ rfl Try.call23 rfl (ok_wherrylaw20_wakes  _ hv31) rfl rfl),
                    st_plain rfl (op_pick _ _ true _ rfl rfl),
                    st_plain rfl (op_assign _ _ _ _ rfl rfl),
                    trivial⟩ ?_
                exact hl36 _ (Option.some.inj h).symm
              · refine ht_seqR hn (El := (_ :: _ :: _ :: _ :: (77, .v (.int .i64 v28.2)) :: (78, .v (.bool (v28.2 == 3))) :: (79, .v (.bool true)) :: (80, .v undef) :: (81, .v undef) :: (82, .v (.bool true)) :: (83, .v (.bool true)) :: (84, .agg [.v (.int .i64 v28.1.Kind), .v (.int .i64 v28.1.Number), .v (.int .i64 v28.1.Offset), .v (.int .i64 v28.1.Seq), .fl (.own 5) 1 (List.map (Value.int .u8) v28.1.Data)]) :: (85, .agg [.v (.int .i64 0), .v (.int .i64 0), .v (.int .i64 0), .v (.int .i64 0), .v (.slice none 0 0)]) :: (86, .v (.bool v30)) :: (87, .v (.bool v30)) :: (88, .v (.bool false)) :: (89, .v undef) :: (90, .v (.bool false)) :: (6, .v (.bool false)) :: [])) (init := [0, 1, 2, 3]) (fin := [18]) (sps := (⟨[2], [], [4], [(.slot 77)]⟩ :: ⟨[4], [], [5], [(.slot 78)]⟩ :: ⟨[5], [], [6], [(.slot 79)]⟩ :: ⟨[6], [], [7], [(.slot 80)]⟩ :: ⟨[6], [], [8], [(.slot 81)]⟩ :: ⟨[6], [], [9], [(.slot 82)]⟩ :: ⟨[9], [], [10], [(.slot 83)]⟩ :: ⟨[10], [1], [11], [(.slot 84)]⟩ :: ⟨[10], [], [12], [(.slot 85)]⟩ :: ⟨[10, 11, 12], [], [13], [(.slot 86)]⟩ :: ⟨[10, 13], [], [14], [(.slot 87)]⟩ :: ⟨[14], [], [15], [(.slot 88)]⟩ :: ⟨[15], [], [16], [(.slot 89)]⟩ :: ⟨[15], [], [17], [(.slot 90)]⟩ :: ⟨[17], [], [18], [(.slot 6)]⟩ :: [])) (es' := [(6, .v (.bool false))]) (by kernel_rfl) rfl rfl
                  ⟨st_plain rfl (op_move _ _ _ _ rfl rfl),
                    st_plain rfl (op_bin _ _ _ _ _ rfl rfl rfl),
                    st_plain rfl (op_move _ _ _ _ (congrArg (fun b => AV.v (Value.bool b)) hg11_2) rfl),
                    st_skip 2 79 _ false rfl rfl rfl rfl (List.Mem.head _),
                    st_skip 2 79 _ false rfl rfl rfl rfl (List.Mem.head _),
                    st_plain rfl (op_pick _ _ true _ rfl rfl),
                    st_plain rfl (op_move _ _ _ _ rfl rfl),
                    st_run 6 83 true rfl rfl rfl (List.Mem.head _) (op_loadA_take _ _ _ _ Try.underlying24 rfl sz24 rfl rfl),
                    st_run 6 83 true rfl rfl rfl (List.Mem.head _) (op_build _ _ _ _ [1, 1, 1, 1, 1] _ _ Try.underlying24 zr24 (fs24 _ Try.underlying24) Src.nil rfl rfl rfl),
                    st_run 6 83 true rfl rfl rfl (List.Mem.head _) (op_call _ _ 19 _ _ rfl Try.call19 rfl ((ok_wherrykeep_Frame v28.1 (T_Frame.mk 0 0 0 0 []) _ hv30).args (subs_cons (sub_refl _) (subs_cons (sub_agg (subs_cons (sub_refl _) (subs_cons (sub_refl _) (subs_cons (sub_refl _) (subs_cons (sub_refl _) (subs_cons (sub_nil_shr 1) (subs_nil))))))) (subs_nil)))) rfl rfl),
                    st_plain rfl (op_pick _ _ true _ rfl rfl),
                    st_plain rfl (op_move _ _ _ _ (congrArg (fun b => AV.v (Value.bool b)) hg11_11) rfl),
                    st_skip 11 88 _ true rfl rfl rfl rfl (List.Mem.head _),
                    st_plain rfl (op_pick _ _ false _ rfl rfl),
                    st_plain rfl (op_assign _ _ _ _ rfl rfl),
                    trivial⟩ ?_
                exact hl36 _ (Option.some.inj h).symm
            · refine cond_some h (fun hg11_6 h => ?_) (fun hg11_6 h => ?_)
              · obtain ⟨v32, hv32, h⟩ := bind_some h
                refine cond_some h (fun hg11_11 h => ?_) (fun hg11_11 h => ?_)
                · obtain ⟨v33, hv33, h⟩ := bind_some h
                  refine ht_seqR hn (El := (_ :: _ :: _ :: _ :: (77, .v (.int .i64 v28.2)) :: (78, .v (.bool (v28.2 == 3))) :: (79, .v (.bool false)) :: (80, .v (.int .i64 v28.2)) :: (81, .v (.bool (v28.2 == 6))) :: (82, .v (.bool (v28.2 == 6))) :: (83, .v (.bool true)) :: (84, .agg [.v (.int .i64 v28.1.Kind), .v (.int .i64 v28.1.Number), .v (.int .i64 v28.1.Offset), .v (.int .i64 v28.1.Seq), .fl (.own 5) 1 (List.map (Value.int .u8) v28.1.Data)]) :: (85, .agg [.v (.int .i64 0), .v (.int .i64 0), .v (.int .i64 0), .v (.int .i64 0), .v (.slice none 0 0)]) :: (86, .v (.bool v32)) :: (87, .v (.bool v32)) :: (88, .v (.bool true)) :: (89, .v (.bool v33)) :: (90, .v (.bool v33)) :: (6, .v (.bool v33)) :: [])) (init := [0, 1, 2, 3]) (fin := [18]) (sps := (⟨[2], [], [4], [(.slot 77)]⟩ :: ⟨[4], [], [5], [(.slot 78)]⟩ :: ⟨[5], [], [6], [(.slot 79)]⟩ :: ⟨[6, 2], [], [7], [(.slot 80)]⟩ :: ⟨[6, 7], [], [8], [(.slot 81)]⟩ :: ⟨[6, 8], [], [9], [(.slot 82)]⟩ :: ⟨[9], [], [10], [(.slot 83)]⟩ :: ⟨[10], [1], [11], [(.slot 84)]⟩ :: ⟨[10], [], [12], [(.slot 85)]⟩ :: ⟨[10, 11, 12], [], [13], [(.slot 86)]⟩ :: ⟨[10, 13], [], [14], [(.slot 87)]⟩ :: ⟨[14], [], [15], [(.slot 88)]⟩ :: ⟨[15], [], [16], [(.slot 89)]⟩ :: ⟨[15, 16], [], [17], [(.slot 90)]⟩ :: ⟨[17], [], [18], [(.slot 6)]⟩ :: [])) (es' := [(6, .v (.bool v33))]) (by kernel_rfl) rfl rfl
                    ⟨st_plain rfl (op_move _ _ _ _ rfl rfl),
                      st_plain rfl (op_bin _ _ _ _ _ rfl rfl rfl),
                      st_plain rfl (op_move _ _ _ _ (congrArg (fun b => AV.v (Value.bool b)) hg11_2) rfl),
                      st_run 2 79 false rfl rfl rfl (List.Mem.head _) (op_move _ _ _ _ rfl rfl),
                      st_run 2 79 false rfl rfl rfl (List.Mem.head _) (op_bin _ _ _ _ _ rfl rfl rfl),
                      st_plain rfl (op_pick _ _ false _ rfl rfl),
                      st_plain rfl (op_move _ _ _ _ (congrArg (fun b => AV.v (Value.bool b)) hg11_6) rfl),
                      st_run 6 83 true rfl rfl rfl (List.Mem.head _) (op_loadA_take _ _ _ _ Try.underlying24 rfl sz24 rfl rfl),
                      st_run 6 83 true rfl rfl rfl (List.Mem.head _) (op_build _ _ _ _ [1, 1, 1, 1, 1] _ _ Try.underlying24 zr24 (fs24 _ Try.underlying24) Src.nil rfl rfl rfl),
                      st_run 6 83 true rfl rfl rfl (List.Mem.head _) (op_call _ _ 19 _ _ rfl Try.call19 rfl ((ok_wherrykeep_Frame v28.1 (T_Frame.mk 0 0 0 0 []) _ hv32).args (subs_cons (sub_refl _) (subs_cons (sub_agg (subs_cons (sub_refl _) (subs_cons (sub_refl _) (subs_cons (sub_refl _) (subs_cons (sub_refl _) (subs_cons (sub_nil_shr 1) (subs_nil))))))) (subs_nil)))) rfl rfl),
                      st_plain rfl (op_pick _ _ true _ rfl rfl),
                      st_plain rfl (op_move _ _ _ _ (congrArg (fun b => AV.v (Value.bool b)) hg11_11) rfl),
                      st_run 11 88 true rfl rfl rfl (List.Mem.head _) (op_call _ _ 23 _ _ rfl Try.call23 rfl (ok_wherrylaw20_wakes  _ hv33) rfl rfl),
                      st_plain rfl (op_pick _ _ true _ rfl rfl),
                      st_plain rfl (op_assign _ _ _ _ rfl rfl),
                      trivial⟩ ?_
                  exact hl36 _ (Option.some.inj h).symm
                · refine ht_seqR hn (El := (_ :: _ :: _ :: _ :: (77, .v (.int .i64 v28.2)) :: (78, .v (.bool (v28.2 == 3))) :: (79, .v (.bool false)) :: (80, .v (.int .i64 v28.2)) :: (81, .v (.bool (v28.2 == 6))) :: (82, .v (.bool (v28.2 == 6))) :: (83, .v (.bool true)) :: (84, .agg [.v (.int .i64 v28.1.Kind), .v (.int .i64 v28.1.Number), .v (.int .i64 v28.1.Offset), .v (.int .i64 v28.1.Seq), .fl (.own 5) 1 (List.map (Value.int .u8) v28.1.Data)]) :: (85, .agg [.v (.int .i64 0), .v (.int .i64 0), .v (.int .i64 0), .v (.int .i64 0), .v (.slice none 0 0)]) :: (86, .v (.bool v32)) :: (87, .v (.bool v32)) :: (88, .v (.bool false)) :: (89, .v undef) :: (90, .v (.bool false)) :: (6, .v (.bool false)) :: [])) (init := [0, 1, 2, 3]) (fin := [18]) (sps := (⟨[2], [], [4], [(.slot 77)]⟩ :: ⟨[4], [], [5], [(.slot 78)]⟩ :: ⟨[5], [], [6], [(.slot 79)]⟩ :: ⟨[6, 2], [], [7], [(.slot 80)]⟩ :: ⟨[6, 7], [], [8], [(.slot 81)]⟩ :: ⟨[6, 8], [], [9], [(.slot 82)]⟩ :: ⟨[9], [], [10], [(.slot 83)]⟩ :: ⟨[10], [1], [11], [(.slot 84)]⟩ :: ⟨[10], [], [12], [(.slot 85)]⟩ :: ⟨[10, 11, 12], [], [13], [(.slot 86)]⟩ :: ⟨[10, 13], [], [14], [(.slot 87)]⟩ :: ⟨[14], [], [15], [(.slot 88)]⟩ :: ⟨[15], [], [16], [(.slot 89)]⟩ :: ⟨[15], [], [17], [(.slot 90)]⟩ :: ⟨[17], [], [18], [(.slot 6)]⟩ :: [])) (es' := [(6, .v (.bool false))]) (by kernel_rfl) rfl rfl
                    ⟨st_plain rfl (op_move _ _ _ _ rfl rfl),
                      st_plain rfl (op_bin _ _ _ _ _ rfl rfl rfl),
                      st_plain rfl (op_move _ _ _ _ (congrArg (fun b => AV.v (Value.bool b)) hg11_2) rfl),
                      st_run 2 79 false rfl rfl rfl (List.Mem.head _) (op_move _ _ _ _ rfl rfl),
                      st_run 2 79 false rfl rfl rfl (List.Mem.head _) (op_bin _ _ _ _ _ rfl rfl rfl),
                      st_plain rfl (op_pick _ _ false _ rfl rfl),
                      st_plain rfl (op_move _ _ _ _ (congrArg (fun b => AV.v (Value.bool b)) hg11_6) rfl),
                      st_run 6 83 true rfl rfl rfl (List.Mem.head _) (op_loadA_take _ _ _ _ Try.underlying24 rfl sz24 rfl rfl),
                      st_run 6 83 true rfl rfl rfl (List.Mem.head _) (op_build _ _ _ _ [1, 1, 1, 1, 1] _ _ Try.underlying24 zr24 (fs24 _ Try.underlying24) Src.nil rfl rfl rfl),
                      st_run 6 83 true rfl rfl rfl (List.Mem.head _) (op_call _ _ 19 _ _ rfl Try.call19 rfl ((ok_wherrykeep_Frame v28.1 (T_Frame.mk 0 0 0 0 []) _ hv32).args (subs_cons (sub_refl _) (subs_cons (sub_agg (subs_cons (sub_refl _) (subs_cons (sub_refl _) (subs_cons (sub_refl _) (subs_cons (sub_refl _) (subs_cons (sub_nil_shr 1) (subs_nil))))))) (subs_nil)))) rfl rfl),
                      st_plain rfl (op_pick _ _ true _ rfl rfl),
                      st_plain rfl (op_move _ _ _ _ (congrArg (fun b => AV.v (Value.bool b)) hg11_11) rfl),
                      st_skip 11 88 _ true rfl rfl rfl rfl (List.Mem.head _),
                      st_plain rfl (op_pick _ _ false _ rfl rfl),
                      st_plain rfl (op_assign _ _ _ _ rfl rfl),
                      trivial⟩ ?_
                  exact hl36 _ (Option.some.inj h).symm
              · refine ht_seqR hn (El := (_ :: _ :: _ :: _ :: (77, .v (.int .i64 v28.2)) :: (78, .v (.bool (v28.2 == 3))) :: (79, .v (.bool false)) :: (80, .v (.int .i64 v28.2)) :: (81, .v (.bool (v28.2 == 6))) :: (82, .v (.bool (v28.2 == 6))) :: (83, .v (.bool false)) :: (84, .v undef) :: (85, .v undef) :: (86, .v undef) :: (87, .v (.bool false)) :: (88, .v (.bool false)) :: (89, .v undef) :: (90, .v (.bool false)) :: (6, .v (.bool false)) :: [])) (init := [0, 1, 2, 3]) (fin := [18]) (sps := (⟨[2], [], [4], [(.slot 77)]⟩ :: ⟨[4], [], [5], [(.slot 78)]⟩ :: ⟨[5], [], [6], [(.slot 79)]⟩ :: ⟨[6, 2], [], [7], [(.slot 80)]⟩ :: ⟨[6, 7], [], [8], [(.slot 81)]⟩ :: ⟨[6, 8], [], [9], [(.slot 82)]⟩ :: ⟨[9], [], [10], [(.slot 83)]⟩ :: ⟨[10], [], [11], [(.slot 84)]⟩ :: ⟨[10], [], [12], [(.slot 85)]⟩ :: ⟨[10], [], [13], [(.slot 86)]⟩ :: ⟨[10], [], [14], [(.slot 87)]⟩ :: ⟨[14], [], [15], [(.slot 88)]⟩ :: ⟨[15], [], [16], [(.slot 89)]⟩ :: ⟨[15], [], [17], [(.slot 90)]⟩ :: ⟨[17], [], [18], [(.slot 6)]⟩ :: [])) (es' := [(6, .v (.bool false))]) (by kernel_rfl) rfl rfl
                  ⟨st_plain rfl (op_move _ _ _ _ rfl rfl),
                    st_plain rfl (op_bin _ _ _ _ _ rfl rfl rfl),
                    st_plain rfl (op_move _ _ _ _ (congrArg (fun b => AV.v (Value.bool b)) hg11_2) rfl),
                    st_run 2 79 false rfl rfl rfl (List.Mem.head _) (op_move _ _ _ _ rfl rfl),
                    st_run 2 79 false rfl rfl rfl (List.Mem.head _) (op_bin _ _ _ _ _ rfl rfl rfl),
                    st_plain rfl (op_pick _ _ false _ rfl rfl),
                    st_plain rfl (op_move _ _ _ _ (congrArg (fun b => AV.v (Value.bool b)) hg11_6) rfl),
                    st_skip 6 83 _ true rfl rfl rfl rfl (List.Mem.head _),
                    st_skip 6 83 _ true rfl rfl rfl rfl (List.Mem.head _),
                    st_skip 6 83 _ true rfl rfl rfl rfl (List.Mem.head _),
                    st_plain rfl (op_pick _ _ false _ rfl rfl),
                    st_plain rfl (op_move _ _ _ _ rfl rfl),
                    st_skip 11 88 _ true rfl rfl rfl rfl (List.Mem.head _),
                    st_plain rfl (op_pick _ _ false _ rfl rfl),
                    st_plain rfl (op_assign _ _ _ _ rfl rfl),
                    trivial⟩ ?_
                exact hl36 _ (Option.some.inj h).symm
        · have h := cond_f hb29 h
          refine ht_skip ?_
          refine pt_then ?_
          refine ht_seq ?_
          obtain ⟨v38, hv38, h⟩ := bind_some h
          refine ht_seqR hn (El := [_, _, _, _, (92, .agg [.v (.int .i64 v28.1.Kind), .v (.int .i64 v28.1.Number), .v (.int .i64 v28.1.Offset), .v (.int .i64 v28.1.Seq), .fl (.own 5) 1 (List.map (Value.int .u8) v28.1.Data)]), (93, .tup [.fl (.own 5) 1 (List.map (Value.int .u8) v38.1), .v (.int .i64 v38.2)]), (91, .tup [.fl (.own 5) 1 (List.map (Value.int .u8) v38.1), .v (.int .i64 v38.2)]), (94, .fl (.own 5) 1 (List.map (Value.int .u8) v38.1)), (91, .tup [.any, .v (.int .i64 v38.2)]), (95, .v (.int .i64 v38.2)), (15, .fl (.own 5) 1 (List.map (Value.int .u8) v38.1)), (16, .v (.int .i64 v38.2))]) (init := [0, 1, 2, 3]) (fin := [0, 10, 11]) (sps := [⟨[], [1], [4], [(.slot 92)]⟩, ⟨[4], [], [5], [(.slot 93)]⟩, ⟨[], [5], [6], [(.slot 91)]⟩, ⟨[], [6], [8, 7], [(.slot 94)]⟩, ⟨[8], [], [9], [(.slot 95)]⟩, ⟨[], [7], [10], [(.slot 15)]⟩, ⟨[9], [], [11], [(.slot 16)]⟩]) (es' := [(_, _), (15, .fl (.own 5) 1 (List.map (Value.int .u8) v38.1)), (16, .v (.int .i64 v38.2))]) (by kernel_rfl) rfl rfl
            ⟨st_plain rfl (op_loadA_take _ _ _ _ Try.underlying24 rfl sz24 rfl rfl),
              st_plain rfl (op_call _ _ 12 _ _ rfl Try.call12 rfl (ok_frame_Bytes v28.1 _ hv38) rfl rfl),
              st_plain rfl (op_move_take _ _ _ _ rfl),
              st_plain rfl (op_extract_take _ _ _ _ _ rfl (Nat.le_of_ble_eq_true rfl) rfl rfl (by decide) rfl),
              st_plain rfl (op_extract _ _ _ _ _ rfl rfl (Nat.le_of_ble_eq_true rfl) rfl rfl),
              st_plain rfl (op_assign_take _ _ _ _ rfl),
              st_plain rfl (op_assign _ _ _ _ rfl rfl),
              trivial⟩ ?_
          refine pt_then ?_
          refine ht_seq ?_
          refine ht_joinS h (fun (s41 : Bool) => [(6, .v (.bool s41))]) ?_ ?_
          · rintro s41 h
            refine pt_then ?_
            refine ht_ret ?_
            obtain rfl := Option.some.inj h
            exact pt_ret hio rfl (.tmp _ _ .nil) rfl rfl
          · intro u42 h hl43 hr44
            refine cond_some h (fun hg13_2 h => ?_) (fun hg13_2 h => ?_)
            · obtain ⟨v39, hv39, h⟩ := bind_some h
              refine cond_some h (fun hg13_7 h => ?_) (fun hg13_7 h => ?_)
              · obtain ⟨v40, hv40, h⟩ := bind_some h
                refine ht_seqR hn (El := [_, _, _, (96, .v (.int .i64 v38.2)), (97, .v (.bool (v38.2 == 0))), (98, .v (.bool true)), (99, .fl (.own 5) 1 (List.map (Value.int .u8) v38.1)), (100, .fl .shr 1 (List.map (Value.int .u8) b)), (101, .v (.bool v39)), (102, .v (.bool v39)), (103, .v (.bool true)), (104, .v (.bool v40)), (105, .v (.bool v40)), (6, .v (.bool v40))]) (init := [0, 1, 2]) (fin := [13]) (sps := [⟨[2], [], [3], [(.slot 96)]⟩, ⟨[3], [], [4], [(.slot 97)]⟩, ⟨[4], [], [5], [(.slot 98)]⟩, ⟨[5], [1], [6], [(.slot 99)]⟩, ⟨[5, 0], [], [7], [(.slot 100)]⟩, ⟨[5, 6, 7], [], [8], [(.slot 101)]⟩, ⟨[5, 8], [], [9], [(.slot 102)]⟩, ⟨[9], [], [10], [(.slot 103)]⟩, ⟨[10], [], [11], [(.slot 104)]⟩, ⟨[10, 11], [], [12], [(.slot 105)]⟩, ⟨[12], [], [13], [(.slot 6)]⟩]) (es' := [(6, .v (.bool v40))]) (by kernel_rfl) rfl rfl
                  ⟨st_plain rfl (op_move _ _ _ _ rfl rfl),
                    st_plain rfl (op_bin _ _ _ _ _ rfl rfl rfl),
                    st_plain rfl (op_move _ _ _ _ (congrArg (fun b => AV.v (Value.bool b)) hg13_2) rfl),
                    st_run 2 98 true rfl rfl rfl (List.Mem.head _) (op_move_take _ _ _ _ rfl),
                    st_run 2 98 true rfl rfl rfl (List.Mem.head _) (op_move _ _ _ _ rfl rfl),
                    st_run 2 98 true rfl rfl rfl (List.Mem.head _) (op_call _ _ 17 _ _ rfl Try.call17 rfl (ok_wherrykeep_Bytes v38.1 b _ hv39) rfl rfl),
                    st_plain rfl (op_pick _ _ true _ rfl rfl),
                    st_plain rfl (op_move _ _ _ _ (congrArg (fun b => AV.v (Value.bool b)) hg13_7) rfl),
                    st_run 7 103 true rfl rfl rfl (List.Mem.head _) (op_call _ _ 23 _ _ rfl Try.call23 rfl (ok_wherrylaw20_wakes  _ hv40) rfl rfl),
                    st_plain rfl (op_pick _ _ true _ rfl rfl),
                    st_plain rfl (op_assign _ _ _ _ rfl rfl),
                    trivial⟩ ?_
                exact hl43 _ (Option.some.inj h).symm
              · refine ht_seqR hn (El := [_, _, _, (96, .v (.int .i64 v38.2)), (97, .v (.bool (v38.2 == 0))), (98, .v (.bool true)), (99, .fl (.own 5) 1 (List.map (Value.int .u8) v38.1)), (100, .fl .shr 1 (List.map (Value.int .u8) b)), (101, .v (.bool v39)), (102, .v (.bool v39)), (103, .v (.bool false)), (104, .v undef), (105, .v (.bool false)), (6, .v (.bool false))]) (init := [0, 1, 2]) (fin := [13]) (sps := [⟨[2], [], [3], [(.slot 96)]⟩, ⟨[3], [], [4], [(.slot 97)]⟩, ⟨[4], [], [5], [(.slot 98)]⟩, ⟨[5], [1], [6], [(.slot 99)]⟩, ⟨[5, 0], [], [7], [(.slot 100)]⟩, ⟨[5, 6, 7], [], [8], [(.slot 101)]⟩, ⟨[5, 8], [], [9], [(.slot 102)]⟩, ⟨[9], [], [10], [(.slot 103)]⟩, ⟨[10], [], [11], [(.slot 104)]⟩, ⟨[10], [], [12], [(.slot 105)]⟩, ⟨[12], [], [13], [(.slot 6)]⟩]) (es' := [(6, .v (.bool false))]) (by kernel_rfl) rfl rfl
                  ⟨st_plain rfl (op_move _ _ _ _ rfl rfl),
                    st_plain rfl (op_bin _ _ _ _ _ rfl rfl rfl),
                    st_plain rfl (op_move _ _ _ _ (congrArg (fun b => AV.v (Value.bool b)) hg13_2) rfl),
                    st_run 2 98 true rfl rfl rfl (List.Mem.head _) (op_move_take _ _ _ _ rfl),
                    st_run 2 98 true rfl rfl rfl (List.Mem.head _) (op_move _ _ _ _ rfl rfl),
                    st_run 2 98 true rfl rfl rfl (List.Mem.head _) (op_call _ _ 17 _ _ rfl Try.call17 rfl (ok_wherrykeep_Bytes v38.1 b _ hv39) rfl rfl),
                    st_plain rfl (op_pick _ _ true _ rfl rfl),
                    st_plain rfl (op_move _ _ _ _ (congrArg (fun b => AV.v (Value.bool b)) hg13_7) rfl),
                    st_skip 7 103 _ true rfl rfl rfl rfl (List.Mem.head _),
                    st_plain rfl (op_pick _ _ false _ rfl rfl),
                    st_plain rfl (op_assign _ _ _ _ rfl rfl),
                    trivial⟩ ?_
                exact hl43 _ (Option.some.inj h).symm
            · refine ht_seqR hn (El := [_, _, _, (96, .v (.int .i64 v38.2)), (97, .v (.bool (v38.2 == 0))), (98, .v (.bool false)), (99, .v undef), (100, .v undef), (101, .v undef), (102, .v (.bool false)), (103, .v (.bool false)), (104, .v undef), (105, .v (.bool false)), (6, .v (.bool false))]) (init := [0, 1, 2]) (fin := [13]) (sps := [⟨[2], [], [3], [(.slot 96)]⟩, ⟨[3], [], [4], [(.slot 97)]⟩, ⟨[4], [], [5], [(.slot 98)]⟩, ⟨[5], [], [6], [(.slot 99)]⟩, ⟨[5], [], [7], [(.slot 100)]⟩, ⟨[5], [], [8], [(.slot 101)]⟩, ⟨[5], [], [9], [(.slot 102)]⟩, ⟨[9], [], [10], [(.slot 103)]⟩, ⟨[10], [], [11], [(.slot 104)]⟩, ⟨[10], [], [12], [(.slot 105)]⟩, ⟨[12], [], [13], [(.slot 6)]⟩]) (es' := [(6, .v (.bool false))]) (by kernel_rfl) rfl rfl
                ⟨st_plain rfl (op_move _ _ _ _ rfl rfl),
                  st_plain rfl (op_bin _ _ _ _ _ rfl rfl rfl),
                  st_plain rfl (op_move _ _ _ _ (congrArg (fun b => AV.v (Value.bool b)) hg13_2) rfl),
                  st_skip 2 98 _ true rfl rfl rfl rfl (List.Mem.head _),
                  st_skip 2 98 _ true rfl rfl rfl rfl (List.Mem.head _),
                  st_skip 2 98 _ true rfl rfl rfl rfl (List.Mem.head _),
                  st_plain rfl (op_pick _ _ false _ rfl rfl),
                  st_plain rfl (op_move _ _ _ _ rfl rfl),
                  st_skip 7 103 _ true rfl rfl rfl rfl (List.Mem.head _),
                  st_plain rfl (op_pick _ _ false _ rfl rfl),
                  st_plain rfl (op_assign _ _ _ _ rfl rfl),
                  trivial⟩ ?_
              exact hl43 _ (Option.some.inj h).symm
      · intro u19 h hl20 hr21
        refine ht_seq ?_
        refine ht_seqR hn (El := [_, _, _, _, _, _, _, (42, .v (.int .i64 v6.2)), (43, .v (.bool (v6.2 == 0)))]) (init := [0, 1, 2, 3, 4, 5, 6]) (fin := [0, 1, 2, 3, 5, 6, 8]) (sps := [⟨[4], [], [7], [(.slot 42)]⟩, ⟨[7], [], [8], [(.slot 43)]⟩]) (es' := [(_, _), (_, _), (_, _), (_, _), (_, _), (_, _), (43, .v (.bool (v6.2 == 0)))]) (by kernel_rfl) rfl rfl
          ⟨st_plain rfl (op_move _ _ _ _ rfl rfl),
            st_plain rfl (op_bin _ _ _ _ _ rfl rfl rfl),
            trivial⟩ ?_
        refine pt_then ?_
        refine ht_cond _ rfl (fun hb22 => ?_) (fun hb22 => ?_)
        · have h := cond_t hb22 h
          refine ht_seq ?_
          obtain ⟨v9, hv9, h⟩ := bind_some h
          refine ht_seqR hn (El := (_ :: _ :: _ :: _ :: _ :: _ :: _ :: (45, .same (.slot 7)) :: (46, .tup [.agg [.v (.int .i64 v9.1.Kind), .v (.int .i64 v9.1.Number), .v (.int .i64 v9.1.Offset), .v (.int .i64 v9.1.Seq), .fl (.own 5) 1 (List.map (Value.int .u8) v9.1.Data)], .v (.int .i64 v9.2)]) :: (44, .tup [.agg [.v (.int .i64 v9.1.Kind), .v (.int .i64 v9.1.Number), .v (.int .i64 v9.1.Offset), .v (.int .i64 v9.1.Seq), .fl (.own 5) 1 (List.map (Value.int .u8) v9.1.Data)], .v (.int .i64 v9.2)]) :: (47, .agg [.v (.int .i64 v9.1.Kind), .v (.int .i64 v9.1.Number), .v (.int .i64 v9.1.Offset), .v (.int .i64 v9.1.Seq), .fl (.own 5) 1 (List.map (Value.int .u8) v9.1.Data)]) :: (44, .tup [.any, .v (.int .i64 v9.2)]) :: (48, .v (.int .i64 v9.2)) :: (11, .box 24 [.v (.int .i64 0), .v (.int .i64 0), .v (.int .i64 0), .v (.int .i64 0), .v (.slice none 0 0)]) :: (11, .box 24 [.v (.int .i64 v9.1.Kind), .v (.int .i64 v9.1.Number), .v (.int .i64 v9.1.Offset), .v (.int .i64 v9.1.Seq), .fl (.own 5) 1 (List.map (Value.int .u8) v9.1.Data)]) :: (12, .v (.int .i64 v9.2)) :: [])) (init := [0, 1, 2, 3, 4, 5, 6]) (fin := [0, 1, 2, 3, 4, 5, 14, 15]) (sps := [⟨[3], [], [7], [(.slot 45)]⟩, ⟨[7, 3], [], [8], [(.slot 46)]⟩, ⟨[], [8], [9], [(.slot 44)]⟩, ⟨[], [9], [11, 10], [(.slot 47)]⟩, ⟨[11], [], [12], [(.slot 48)]⟩, ⟨[], [], [13], [(.slot 11)]⟩, ⟨[], [10, 13], [14], [.cell 11 0, .cell 11 1, .cell 11 2, .cell 11 3, .cell 11 4]⟩, ⟨[12], [], [15], [(.slot 12)]⟩]) (es' := [(_, _), (_, _), (_, _), (_, _), (_, _), (_, _), (11, .box 24 [.v (.int .i64 v9.1.Kind), .v (.int .i64 v9.1.Number), .v (.int .i64 v9.1.Offset), .v (.int .i64 v9.1.Seq), .fl (.own 5) 1 (List.map (Value.int .u8) v9.1.Data)]), (12, .v (.int .i64 v9.2))]) (by kernel_rfl) rfl rfl
            ⟨st_plain rfl (op_move _ _ _ _ rfl rfl),
              st_plain rfl (op_call _ _ 13 _ _ rfl Try.call13 rfl (ok_frame_Read v6.1 _ hv9) rfl rfl),
              st_plain rfl (op_move_take _ _ _ _ rfl),
              st_plain rfl (op_extract_take _ _ _ _ _ rfl (Nat.le_of_ble_eq_true rfl) rfl rfl (by decide) rfl),
              st_plain rfl (op_extract _ _ _ _ _ rfl rfl (Nat.le_of_ble_eq_true rfl) rfl rfl),
              st_plain rfl (op_alloc _ _ zr24),
              st_plain rfl (op_store_take _ _ _ _ _ _ _ _ sz24 rfl rfl rfl (Nat.le_of_ble_eq_true rfl) rfl rfl),
              st_plain rfl (op_assign _ _ _ _ rfl rfl),
              trivial⟩ ?_
          refine pt_then ?_
          refine ht_seq ?_
          refine ht_joinS h (fun (s23 : Bool) => [(2, .fl .shr 1 (List.map (Value.int .u8) b)), (69, .v (.bool s23))]) ?_ ?_
          · rintro s23 h
            refine pt_then ?_
            refine ht_cond _ rfl (fun hb27 => ?_) (fun hb27 => ?_)
            · have h := cond_t hb27 h
              refine ht_seq ?_
              refine ht_seqR hn (El := [_, _, (6, .v (.bool false))]) (init := [0, 1]) (fin := [2]) (sps := [⟨[], [], [2], [(.slot 6)]⟩]) (es' := [(6, .v (.bool false))]) (by kernel_rfl) rfl rfl
                ⟨st_plain rfl (op_assign _ _ _ _ rfl rfl),
                  trivial⟩ ?_
              refine pt_then ?_
              refine ht_ret ?_
              refine pt_r_then ?_
              have h := hr21 _ (Option.some.inj h).symm
              obtain rfl := Option.some.inj h
              exact pt_ret hio rfl (.tmp _ _ .nil) rfl rfl
            · have h := cond_f hb27 h
              refine ht_skip ?_
              refine pt_pick [0] (by kernel_rfl) (es' := [(_, _)]) rfl ?_
              exact hl20 _ (Option.some.inj h).symm
          · intro u24 h hl25 hr26
            refine cond_some h (fun hg7_2 h => ?_) (fun hg7_2 h => ?_)
            · refine ht_anyR (by kernel_rfl) hn (El := (_ :: _ :: _ :: _ :: _ :: _ :: _ :: _ :: (49, .v (.int .i64 v9.2)) :: (50, .v (.bool (v9.2 != 0))) :: (51, .v (.bool true)) :: (52, .v undef) :: (53, .v undef) :: (54, .v undef) :: (55, .v undef) :: (56, .v (.bool true)) :: (57, .v (.bool true)) :: (58, .v undef) :: (59, .v undef) :: (60, .v undef) :: (61, .v undef) :: (62, .v undef) :: (63, .v undef) :: (64, .v undef) :: (65, .v undef) :: (66, .v undef) :: (67, .v undef) :: (68, .v undef) :: (69, .v (.bool true)) :: [])) (init := [0, 1, 2, 3, 4, 5, 6, 7]) (fin := [0, 28]) (sps := (⟨[7], [], [8], [(.slot 49)]⟩ :: ⟨[8], [], [9], [(.slot 50)]⟩ :: ⟨[9], [], [10], [(.slot 51)]⟩ :: ⟨[10], [], [11], [(.slot 52)]⟩ :: ⟨[10], [], [12], [(.slot 53)]⟩ :: ⟨[10], [], [13], [(.slot 54)]⟩ :: ⟨[10], [], [14], [(.slot 55)]⟩ :: ⟨[10], [], [15], [(.slot 56)]⟩ :: ⟨[15], [], [16], [(.slot 57)]⟩ :: ⟨[16], [], [17], [(.slot 58)]⟩ :: ⟨[16], [], [18], [(.slot 59)]⟩ :: ⟨[16], [], [19], [(.slot 60)]⟩ :: ⟨[19], [], [20], [(.slot 61)]⟩ :: ⟨[19], [], [21], [(.slot 62)]⟩ :: ⟨[19], [], [22], [(.slot 63)]⟩ :: ⟨[19], [], [23], [(.slot 64)]⟩ :: ⟨[19], [], [24], [(.slot 65)]⟩ :: ⟨[19], [], [25], [(.slot 66)]⟩ :: ⟨[19], [], [26], [(.slot 67)]⟩ :: ⟨[16], [], [27], [(.slot 68)]⟩ :: ⟨[16], [], [28], [(.slot 69)]⟩ :: [])) (es' := [(_, _), (69, .v (.bool true))]) (by kernel_rfl) rfl rfl
                ⟨st_plain rfl (op_move _ _ _ _ rfl rfl),
                  st_plain rfl (op_bin _ _ _ _ _ rfl rfl rfl),
                  st_plain rfl (op_move _ _ _ _ (congrArg (fun b => AV.v (Value.bool b)) hg7_2) rfl),
                  st_skip 2 51 _ false rfl rfl rfl rfl (List.Mem.head _),
                  st_skip 2 51 _ false rfl rfl rfl rfl (List.Mem.head _),
                  st_skip 2 51 _ false rfl rfl rfl rfl (List.Mem.head _),
                  st_skip 2 51 _ false rfl rfl rfl rfl (List.Mem.head _),
                  st_plain rfl (op_pick _ _ true _ rfl rfl),
                  st_plain rfl (op_move _ _ _ _ rfl rfl),
                  st_skip 8 57 _ false rfl rfl rfl rfl (List.Mem.head _),
                  st_skip 8 57 _ false rfl rfl rfl rfl (List.Mem.head _),
                  st_skip 8 57 _ false rfl rfl rfl rfl (List.Mem.head _),
                  st_skipU 11 60 _ true rfl rfl rfl rfl (List.Mem.head _),
                  st_skipU 11 60 _ true rfl rfl rfl rfl (List.Mem.head _),
                  st_skipU 11 60 _ true rfl rfl rfl rfl (List.Mem.head _),
                  st_skipU 11 60 _ true rfl rfl rfl rfl (List.Mem.head _),
                  st_skipU 11 60 _ true rfl rfl rfl rfl (List.Mem.head _),
                  st_skipU 11 60 _ true rfl rfl rfl rfl (List.Mem.head _),
                  st_skipU 11 60 _ true rfl rfl rfl rfl (List.Mem.head _),
                  st_skip 8 57 _ false rfl rfl rfl rfl (List.Mem.head _),
                  st_plain rfl (op_pick _ _ true _ rfl rfl),
                  trivial⟩ ?_
              exact hl25 _ (Option.some.inj h).symm
            · obtain ⟨v10, hv10, h⟩ := bind_some h
              refine cond_some h (fun hg7_8 h => ?_) (fun hg7_8 h => ?_)
              · refine ht_anyR (by kernel_rfl) hn (El := (_ :: _ :: _ :: _ :: _ :: _ :: _ :: _ :: (49, .v (.int .i64 v9.2)) :: (50, .v (.bool (v9.2 != 0))) :: (51, .v (.bool false)) :: (52, .agg [.v (.int .i64 v9.1.Kind), .v (.int .i64 v9.1.Number), .v (.int .i64 v9.1.Offset), .v (.int .i64 v9.1.Seq), .fl (.own 5) 1 (List.map (Value.int .u8) v9.1.Data)]) :: (53, .agg [.v (.int .i64 f.Kind), .v (.int .i64 f.Number), .v (.int .i64 f.Offset), .v (.int .i64 f.Seq), .fl .shr 1 (List.map (Value.int .u8) f.Data)]) :: (54, .v (.bool v10)) :: (55, .v (.bool (!v10))) :: (56, .v (.bool (!v10))) :: (57, .v (.bool true)) :: (58, .v undef) :: (59, .v undef) :: (60, .v undef) :: (61, .v undef) :: (62, .v undef) :: (63, .v undef) :: (64, .v undef) :: (65, .v undef) :: (66, .v undef) :: (67, .v undef) :: (68, .v undef) :: (69, .v (.bool true)) :: [])) (init := [0, 1, 2, 3, 4, 5, 6, 7]) (fin := [0, 28]) (sps := (⟨[7], [], [8], [(.slot 49)]⟩ :: ⟨[8], [], [9], [(.slot 50)]⟩ :: ⟨[9], [], [10], [(.slot 51)]⟩ :: ⟨[10], [6], [11], [(.slot 52)]⟩ :: ⟨[10, 1], [], [12], [(.slot 53)]⟩ :: ⟨[10, 11, 12], [], [13], [(.slot 54)]⟩ :: ⟨[10, 13], [], [14], [(.slot 55)]⟩ :: ⟨[10, 14], [], [15], [(.slot 56)]⟩ :: ⟨[15], [], [16], [(.slot 57)]⟩ :: ⟨[16], [], [17], [(.slot 58)]⟩ :: ⟨[16], [], [18], [(.slot 59)]⟩ :: ⟨[16], [], [19], [(.slot 60)]⟩ :: ⟨[19], [], [20], [(.slot 61)]⟩ :: ⟨[19], [], [21], [(.slot 62)]⟩ :: ⟨[19], [], [22], [(.slot 63)]⟩ :: ⟨[19], [], [23], [(.slot 64)]⟩ :: ⟨[19], [], [24], [(.slot 65)]⟩ :: ⟨[19], [], [25], [(.slot 66)]⟩ :: ⟨[19], [], [26], [(.slot 67)]⟩ :: ⟨[16], [], [27], [(.slot 68)]⟩ :: ⟨[16], [], [28], [(.slot 69)]⟩ :: [])) (es' := [(_, _), (69, .v (.bool true))]) (by kernel_rfl) rfl rfl
                  ⟨st_plain rfl (op_move _ _ _ _ rfl rfl),
                    st_plain rfl (op_bin _ _ _ _ _ rfl rfl rfl),
                    st_plain rfl (op_move _ _ _ _ (congrArg (fun b => AV.v (Value.bool b)) hg7_2) rfl),
                    st_run 2 51 false rfl rfl rfl (List.Mem.head _) (op_loadA_take _ _ _ _ Try.underlying24 rfl sz24 rfl rfl),
                    st_run 2 51 false rfl rfl rfl (List.Mem.head _) (op_loadA _ _ _ _ _ _ _ Try.underlying24 rfl sz24 rfl rfl (Nat.le_of_ble_eq_true rfl) rfl rfl),
                    st_run 2 51 false rfl rfl rfl (List.Mem.head _) (op_call _ _ 19 _ _ rfl Try.call19 rfl (ok_wherrykeep_Frame v9.1 f _ hv10) rfl rfl),
                    st_run 2 51 false rfl rfl rfl (List.Mem.head _) (op_un _ _ _ _ rfl rfl),
                    st_plain rfl (op_pick _ _ false _ rfl rfl),
                    st_plain rfl (op_move _ _ _ _ (congrArg (fun b => AV.v (Value.bool b)) hg7_8) rfl),
                    st_skip 8 57 _ false rfl rfl rfl rfl (List.Mem.head _),
                    st_skip 8 57 _ false rfl rfl rfl rfl (List.Mem.head _),
                    st_skip 8 57 _ false rfl rfl rfl rfl (List.Mem.head _),
                    st_skipU 11 60 _ true rfl rfl rfl rfl (List.Mem.head _),
                    st_skipU 11 60 _ true rfl rfl rfl rfl (List.Mem.head _),
                    st_skipU 11 60 _ true rfl rfl rfl rfl (List.Mem.head _),
                    st_skipU 11 60 _ true rfl rfl rfl rfl (List.Mem.head _),
                    st_skipU 11 60 _ true rfl rfl rfl rfl (List.Mem.head _),
                    st_skipU 11 60 _ true rfl rfl rfl rfl (List.Mem.head _),
                    st_skipU 11 60 _ true rfl rfl rfl rfl (List.Mem.head _),
                    st_skip 8 57 _ false rfl rfl rfl rfl (List.Mem.head _),
                    st_plain rfl (op_pick _ _ true _ rfl rfl),
                    trivial⟩ ?_
                exact hl25 _ (Option.some.inj h).symm
              · refine cond_some h (fun hg7_11 h => ?_) (fun hg7_11 h => ?_)
                · obtain ⟨v11, hv11, h⟩ := bind_some h
                  obtain ⟨v12, hv12, h⟩ := bind_some h
                  obtain ⟨v13, hv13, h⟩ := bind_some h
                  refine ht_anyR (by kernel_rfl) hn (El := (_ :: _ :: _ :: _ :: _ :: _ :: _ :: _ :: (49, .v (.int .i64 v9.2)) :: (50, .v (.bool (v9.2 != 0))) :: (51, .v (.bool false)) :: (52, .agg [.v (.int .i64 v9.1.Kind), .v (.int .i64 v9.1.Number), .v (.int .i64 v9.1.Offset), .v (.int .i64 v9.1.Seq), .fl (.own 5) 1 (List.map (Value.int .u8) v9.1.Data)]) :: (53, .agg [.v (.int .i64 f.Kind), .v (.int .i64 f.Number), .v (.int .i64 f.Offset), .v (.int .i64 f.Seq), .fl .shr 1 (List.map (Value.int .u8) f.Data)]) :: (54, .v (.bool v10)) :: (55, .v (.bool (!v10))) :: (56, .v (.bool (!v10))) :: (57, .v (.bool false)) :: (58, .v (.int .i64 v7.2)) :: (59, .v (.bool (v7.2 == 0))) :: (60, .v (.bool true)) :: (61, .fl (.own 5) 1 (List.map (Value.int .u8) v6.1)) :: (62, .fl (.own 5) 1 (List.map (Value.int .u8) v7.1)) :: (63, .v (.bool v11)) :: (64, .agg [.v (.int .i64 f.Kind), .v (.int .i64 f.Number), .v (.int .i64 f.Offset), .v (.int .i64 f.Seq), .fl .shr 1 (List.map (Value.int .u8) f.Data)]) :: (65, .agg [.v (.int .i64 g.Kind), .v (.int .i64 g.Number), .v (.int .i64 g.Offset), .v (.int .i64 g.Seq), .fl .shr 1 (List.map (Value.int .u8) g.Data)]) :: (66, .v (.bool v12)) :: (67, .v (.bool ((!(v11 == v12))))) :: (68, .v (.bool ((!(v11 == v12))))) :: (69, .v (.bool ((!(v11 == v12))))) :: [])) (init := [0, 1, 2, 3, 4, 5, 6, 7]) (fin := [0, 28]) (sps := (⟨[7], [], [8], [(.slot 49)]⟩ :: ⟨[8], [], [9], [(.slot 50)]⟩ :: ⟨[9], [], [10], [(.slot 51)]⟩ :: ⟨[10], [6], [11], [(.slot 52)]⟩ :: ⟨[10, 1], [], [12], [(.slot 53)]⟩ :: ⟨[10, 11, 12], [], [13], [(.slot 54)]⟩ :: ⟨[10, 13], [], [14], [(.slot 55)]⟩ :: ⟨[10, 14], [], [15], [(.slot 56)]⟩ :: ⟨[15], [], [16], [(.slot 57)]⟩ :: ⟨[16, 5], [], [17], [(.slot 58)]⟩ :: ⟨[16, 17], [], [18], [(.slot 59)]⟩ :: ⟨[16, 18], [], [19], [(.slot 60)]⟩ :: ⟨[19], [3], [20], [(.slot 61)]⟩ :: ⟨[19], [4], [21], [(.slot 62)]⟩ :: ⟨[19, 20, 21], [], [22], [(.slot 63)]⟩ :: ⟨[19, 1], [], [23], [(.slot 64)]⟩ :: ⟨[19, 2], [], [24], [(.slot 65)]⟩ :: ⟨[19, 23, 24], [], [25], [(.slot 66)]⟩ :: ⟨[19, 22, 25], [], [26], [(.slot 67)]⟩ :: ⟨[16, 19, 26], [], [27], [(.slot 68)]⟩ :: ⟨[16, 27], [], [28], [(.slot 69)]⟩ :: [])) (es' := [(_, _), (69, .v (.bool ((!(v11 == v12)))))]) (by kernel_rfl) rfl rfl
                    ⟨st_plain rfl (op_move _ _ _ _ rfl rfl),
                      st_plain rfl (op_bin _ _ _ _ _ rfl rfl rfl),
                      st_plain rfl (op_move _ _ _ _ (congrArg (fun b => AV.v (Value.bool b)) hg7_2) rfl),
                      st_run 2 51 false rfl rfl rfl (List.Mem.head _) (op_loadA_take _ _ _ _ Try.underlying24 rfl sz24 rfl rfl),
                      st_run 2 51 false rfl rfl rfl (List.Mem.head _) (op_loadA _ _ _ _ _ _ _ Try.underlying24 rfl sz24 rfl rfl (Nat.le_of_ble_eq_true rfl) rfl rfl),
                      st_run 2 51 false rfl rfl rfl (List.Mem.head _) (op_call _ _ 19 _ _ rfl Try.call19 rfl (ok_wherrykeep_Frame v9.1 f _ hv10) rfl rfl),
                      st_run 2 51 false rfl rfl rfl (List.Mem.head _) (op_un _ _ _ _ rfl rfl),
                      st_plain rfl (op_pick _ _ false _ rfl rfl),
                      st_plain rfl (op_move _ _ _ _ (congrArg (fun b => AV.v (Value.bool b)) hg7_8) rfl),
                      st_run 8 57 false rfl rfl rfl (List.Mem.head _) (op_move _ _ _ _ rfl rfl),
                      st_run 8 57 false rfl rfl rfl (List.Mem.head _) (op_bin _ _ _ _ _ rfl rfl rfl),
                      st_run 8 57 false rfl rfl rfl (List.Mem.head _) (op_move _ _ _ _ (congrArg (fun b => AV.v (Value.bool b)) hg7_11) rfl),
                      st_run 11 60 true rfl rfl rfl (List.Mem.head _) (op_move_take _ _ _ _ rfl),
                      st_run 11 60 true rfl rfl rfl (List.Mem.head _) (op_move_take _ _ _ _ rfl),
                      st_run 11 60 true rfl rfl rfl (List.Mem.head _) (op_call _ _ 17 _ _ rfl Try.call17 rfl (ok_wherrykeep_Bytes v6.1 v7.1 _ hv11) rfl rfl),
                      st_run 11 60 true rfl rfl rfl (List.Mem.head _) (op_loadA _ _ _ _ _ _ _ Try.underlying24 rfl sz24 rfl rfl (Nat.le_of_ble_eq_true rfl) rfl rfl),
                      st_run 11 60 true rfl rfl rfl (List.Mem.head _) (op_loadA _ _ _ _ _ _ _ Try.underlying24 rfl sz24 rfl rfl (Nat.le_of_ble_eq_true rfl) rfl rfl),
                      st_run 11 60 true rfl rfl rfl (List.Mem.head _) (op_call _ _ 19 _ _ rfl Try.call19 rfl (ok_wherrykeep_Frame f g _ hv12) rfl rfl),
                      st_run 11 60 true rfl rfl rfl (List.Mem.head _) (op_bne _ _ _ _ Try.underlying4 rfl rfl),
                      st_run 8 57 false rfl rfl rfl (List.Mem.head _) (op_pick _ _ true _ rfl rfl),
                      st_plain rfl (op_pick _ _ false _ rfl rfl),
                      trivial⟩ ?_
                  exact hl25 _ (Option.some.inj h).symm
                · refine ht_anyR (by kernel_rfl) hn (El := (_ :: _ :: _ :: _ :: _ :: _ :: _ :: _ :: (49, .v (.int .i64 v9.2)) :: (50, .v (.bool (v9.2 != 0))) :: (51, .v (.bool false)) :: (52, .agg [.v (.int .i64 v9.1.Kind), .v (.int .i64 v9.1.Number), .v (.int .i64 v9.1.Offset), .v (.int .i64 v9.1.Seq), .fl (.own 5) 1 (List.map (Value.int .u8) v9.1.Data)]) :: (53, .agg [.v (.int .i64 f.Kind), .v (.int .i64 f.Number), .v (.int .i64 f.Offset), .v (.int .i64 f.Seq), .fl .shr 1 (List.map (Value.int .u8) f.Data)]) :: (54, .v (.bool v10)) :: (55, .v (.bool (!v10))) :: (56, .v (.bool (!v10))) :: (57, .v (.bool false)) :: (58, .v (.int .i64 v7.2)) :: (59, .v (.bool (v7.2 == 0))) :: (60, .v (.bool false)) :: (61, .v undef) :: (62, .v undef) :: (63, .v undef) :: (64, .v undef) :: (65, .v undef) :: (66, .v undef) :: (67, .v undef) :: (68, .v (.bool false)) :: (69, .v (.bool false)) :: [])) (init := [0, 1, 2, 3, 4, 5, 6, 7]) (fin := [0, 28]) (sps := (⟨[7], [], [8], [(.slot 49)]⟩ :: ⟨[8], [], [9], [(.slot 50)]⟩ :: ⟨[9], [], [10], [(.slot 51)]⟩ :: ⟨[10], [6], [11], [(.slot 52)]⟩ :: ⟨[10, 1], [], [12], [(.slot 53)]⟩ :: ⟨[10, 11, 12], [], [13], [(.slot 54)]⟩ :: ⟨[10, 13], [], [14], [(.slot 55)]⟩ :: ⟨[10, 14], [], [15], [(.slot 56)]⟩ :: ⟨[15], [], [16], [(.slot 57)]⟩ :: ⟨[16, 5], [], [17], [(.slot 58)]⟩ :: ⟨[16, 17], [], [18], [(.slot 59)]⟩ :: ⟨[16, 18], [], [19], [(.slot 60)]⟩ :: ⟨[19], [], [20], [(.slot 61)]⟩ :: ⟨[19], [], [21], [(.slot 62)]⟩ :: ⟨[19], [], [22], [(.slot 63)]⟩ :: ⟨[19], [], [23], [(.slot 64)]⟩ :: ⟨[19], [], [24], [(.slot 65)]⟩ :: ⟨[19], [], [25], [(.slot 66)]⟩ :: ⟨[19], [], [26], [(.slot 67)]⟩ :: ⟨[16, 19], [], [27], [(.slot 68)]⟩ :: ⟨[16, 27], [], [28], [(.slot 69)]⟩ :: [])) (es' := [(_, _), (69, .v (.bool false))]) (by kernel_rfl) rfl rfl
                    ⟨st_plain rfl (op_move _ _ _ _ rfl rfl),
                      st_plain rfl (op_bin _ _ _ _ _ rfl rfl rfl),
                      st_plain rfl (op_move _ _ _ _ (congrArg (fun b => AV.v (Value.bool b)) hg7_2) rfl),
                      st_run 2 51 false rfl rfl rfl (List.Mem.head _) (op_loadA_take _ _ _ _ Try.underlying24 rfl sz24 rfl rfl),
                      st_run 2 51 false rfl rfl rfl (List.Mem.head _) (op_loadA _ _ _ _ _ _ _ Try.underlying24 rfl sz24 rfl rfl (Nat.le_of_ble_eq_true rfl) rfl rfl),
                      st_run 2 51 false rfl rfl rfl (List.Mem.head _) (op_call _ _ 19 _ _ rfl Try.call19 rfl (ok_wherrykeep_Frame v9.1 f _ hv10) rfl rfl),
                      st_run 2 51 false rfl rfl rfl (List.Mem.head _) (op_un _ _ _ _ rfl rfl),
                      st_plain rfl (op_pick _ _ false _ rfl rfl),
                      st_plain rfl (op_move _ _ _ _ (congrArg (fun b => AV.v (Value.bool b)) hg7_8) rfl),
                      st_run 8 57 false rfl rfl rfl (List.Mem.head _) (op_move _ _ _ _ rfl rfl),
                      st_run 8 57 false rfl rfl rfl (List.Mem.head _) (op_bin _ _ _ _ _ rfl rfl rfl),
                      st_run 8 57 false rfl rfl rfl (List.Mem.head _) (op_move _ _ _ _ (congrArg (fun b => AV.v (Value.bool b)) hg7_11) rfl),
                      st_skip 11 60 _ true rfl rfl rfl rfl (List.Mem.head _),
                      st_skip 11 60 _ true rfl rfl rfl rfl (List.Mem.head _),
                      st_skip 11 60 _ true rfl rfl rfl rfl (List.Mem.head _),
                      st_skip 11 60 _ true rfl rfl rfl rfl (List.Mem.head _),
                      st_skip 11 60 _ true rfl rfl rfl rfl (List.Mem.head _),
                      st_skip 11 60 _ true rfl rfl rfl rfl (List.Mem.head _),
                      st_skip 11 60 _ true rfl rfl rfl rfl (List.Mem.head _),
                      st_run 8 57 false rfl rfl rfl (List.Mem.head _) (op_pick _ _ false _ rfl rfl),
                      st_plain rfl (op_pick _ _ false _ rfl rfl),
                      trivial⟩ ?_
                  exact hl25 _ (Option.some.inj h).symm
        · have h := cond_f hb22 h
          refine ht_skip ?_
          refine pt_pick [0] (by kernel_rfl) (es' := [(_, _)]) rfl ?_
          exact hl20 _ (Option.some.inj h).symm
  · intro u2 h hl3 hr4
    refine cond_some h (fun hg1_4 h => ?_) (fun hg1_4 h => ?_)
    · refine ht_seqR hn (El := (_ :: _ :: _ :: (17, .ptr 3 4) :: (18, .fl .shr 1 (List.map (Value.int .u8) f.Data)) :: (19, .v (.int .i64 (f.Data.length : Int))) :: (20, .v (.bool ((decide (300 < (f.Data.length : Int)))))) :: (21, .v (.bool true)) :: (22, .v undef) :: (23, .v undef) :: (24, .v undef) :: (25, .v undef) :: (26, .v (.bool true)) :: (27, .v (.bool true)) :: (28, .v undef) :: (29, .v undef) :: (30, .v undef) :: (31, .v (.bool true)) :: [])) (init := [0, 1, 2]) (fin := [0, 1, 2, 17]) (sps := (⟨[1], [], [3], [(.slot 17)]⟩ :: ⟨[3, 1], [], [4], [(.slot 18)]⟩ :: ⟨[4], [], [5], [(.slot 19)]⟩ :: ⟨[5], [], [6], [(.slot 20)]⟩ :: ⟨[6], [], [7], [(.slot 21)]⟩ :: ⟨[7], [], [8], [(.slot 22)]⟩ :: ⟨[7], [], [9], [(.slot 23)]⟩ :: ⟨[7], [], [10], [(.slot 24)]⟩ :: ⟨[7], [], [11], [(.slot 25)]⟩ :: ⟨[7], [], [12], [(.slot 26)]⟩ :: ⟨[12], [], [13], [(.slot 27)]⟩ :: ⟨[13], [], [14], [(.slot 28)]⟩ :: ⟨[13], [], [15], [(.slot 29)]⟩ :: ⟨[13], [], [16], [(.slot 30)]⟩ :: ⟨[13], [], [17], [(.slot 31)]⟩ :: [])) (es' := [(_, _), (_, _), (_, _), (31, .v (.bool true))]) (by kernel_rfl) rfl rfl
        ⟨st_plain rfl (op_fieldAddr _ _ _ _ 3 0 _ Try.underlying24 rfl sz22 rfl rfl (by decide)),
          st_plain rfl (op_load _ _ _ _ _ _ Try.underlying22 rfl rfl rfl (Nat.le_of_ble_eq_true rfl) rfl rfl rfl),
          st_plain rfl (op_len_fl _ _ _ Try.underlying22 rfl (by decide) (map_len _)),
          st_plain rfl (op_bin _ _ _ _ _ rfl rfl rfl),
          st_plain rfl (op_move _ _ _ _ (congrArg (fun b => AV.v (Value.bool b)) hg1_4) rfl),
          st_skip 4 21 _ false rfl rfl rfl rfl (List.Mem.head _),
          st_skip 4 21 _ false rfl rfl rfl rfl (List.Mem.head _),
          st_skip 4 21 _ false rfl rfl rfl rfl (List.Mem.head _),
          st_skip 4 21 _ false rfl rfl rfl rfl (List.Mem.head _),
          st_plain rfl (op_pick _ _ true _ rfl rfl),
          st_plain rfl (op_move _ _ _ _ rfl rfl),
          st_skip 10 27 _ false rfl rfl rfl rfl (List.Mem.head _),
          st_skip 10 27 _ false rfl rfl rfl rfl (List.Mem.head _),
          st_skip 10 27 _ false rfl rfl rfl rfl (List.Mem.head _),
          st_plain rfl (op_pick _ _ true _ rfl rfl),
          trivial⟩ ?_
      exact hl3 _ (Option.some.inj h).symm
    · refine cond_some h (fun hg1_10 h => ?_) (fun hg1_10 h => ?_)
      · refine ht_seqR hn (El := (_ :: _ :: _ :: (17, .ptr 3 4) :: (18, .fl .shr 1 (List.map (Value.int .u8) f.Data)) :: (19, .v (.int .i64 (f.Data.length : Int))) :: (20, .v (.bool ((decide (300 < (f.Data.length : Int)))))) :: (21, .v (.bool false)) :: (22, .ptr 4 4) :: (23, .fl .shr 1 (List.map (Value.int .u8) g.Data)) :: (24, .v (.int .i64 (g.Data.length : Int))) :: (25, .v (.bool ((decide (300 < (g.Data.length : Int)))))) :: (26, .v (.bool ((decide (300 < (g.Data.length : Int)))))) :: (27, .v (.bool true)) :: (28, .v undef) :: (29, .v undef) :: (30, .v undef) :: (31, .v (.bool true)) :: [])) (init := [0, 1, 2]) (fin := [0, 1, 2, 17]) (sps := (⟨[1], [], [3], [(.slot 17)]⟩ :: ⟨[3, 1], [], [4], [(.slot 18)]⟩ :: ⟨[4], [], [5], [(.slot 19)]⟩ :: ⟨[5], [], [6], [(.slot 20)]⟩ :: ⟨[6], [], [7], [(.slot 21)]⟩ :: ⟨[7, 2], [], [8], [(.slot 22)]⟩ :: ⟨[7, 8, 2], [], [9], [(.slot 23)]⟩ :: ⟨[7, 9], [], [10], [(.slot 24)]⟩ :: ⟨[7, 10], [], [11], [(.slot 25)]⟩ :: ⟨[7, 11], [], [12], [(.slot 26)]⟩ :: ⟨[12], [], [13], [(.slot 27)]⟩ :: ⟨[13], [], [14], [(.slot 28)]⟩ :: ⟨[13], [], [15], [(.slot 29)]⟩ :: ⟨[13], [], [16], [(.slot 30)]⟩ :: ⟨[13], [], [17], [(.slot 31)]⟩ :: [])) (es' := [(_, _), (_, _), (_, _), (31, .v (.bool true))]) (by kernel_rfl) rfl rfl
          ⟨st_plain rfl (op_fieldAddr _ _ _ _ 3 0 _ Try.underlying24 rfl sz22 rfl rfl (by decide)),
            st_plain rfl (op_load _ _ _ _ _ _ Try.underlying22 rfl rfl rfl (Nat.le_of_ble_eq_true rfl) rfl rfl rfl),
            st_plain rfl (op_len_fl _ _ _ Try.underlying22 rfl (by decide) (map_len _)),
            st_plain rfl (op_bin _ _ _ _ _ rfl rfl rfl),
            st_plain rfl (op_move _ _ _ _ (congrArg (fun b => AV.v (Value.bool b)) hg1_4) rfl),
            st_run 4 21 false rfl rfl rfl (List.Mem.head _) (op_fieldAddr _ _ _ _ 4 0 _ Try.underlying24 rfl sz22 rfl rfl (by decide)),
            st_run 4 21 false rfl rfl rfl (List.Mem.head _) (op_load _ _ _ _ _ _ Try.underlying22 rfl rfl rfl (Nat.le_of_ble_eq_true rfl) rfl rfl rfl),
            st_run 4 21 false rfl rfl rfl (List.Mem.head _) (op_len_fl _ _ _ Try.underlying22 rfl (by decide) (map_len _)),
            st_run 4 21 false rfl rfl rfl (List.Mem.head _) (op_bin _ _ _ _ _ rfl rfl rfl),
            st_plain rfl (op_pick _ _ false _ rfl rfl),
            st_plain rfl (op_move _ _ _ _ (congrArg (fun b => AV.v (Value.bool b)) hg1_10) rfl),
            st_skip 10 27 _ false rfl rfl rfl rfl (List.Mem.head _),
            st_skip 10 27 _ false rfl rfl rfl rfl (List.Mem.head _),
            st_skip 10 27 _ false rfl rfl rfl rfl (List.Mem.head _),
            st_plain rfl (op_pick _ _ true _ rfl rfl),
            trivial⟩ ?_
        exact hl3 _ (Option.some.inj h).symm
      · refine ht_seqR hn (El := (_ :: _ :: _ :: (17, .ptr 3 4) :: (18, .fl .shr 1 (List.map (Value.int .u8) f.Data)) :: (19, .v (.int .i64 (f.Data.length : Int))) :: (20, .v (.bool ((decide (300 < (f.Data.length : Int)))))) :: (21, .v (.bool false)) :: (22, .ptr 4 4) :: (23, .fl .shr 1 (List.map (Value.int .u8) g.Data)) :: (24, .v (.int .i64 (g.Data.length : Int))) :: (25, .v (.bool ((decide (300 < (g.Data.length : Int)))))) :: (26, .v (.bool ((decide (300 < (g.Data.length : Int)))))) :: (27, .v (.bool false)) :: (28, .fl .shr 1 (List.map (Value.int .u8) b)) :: (29, .v (.int .i64 (b.length : Int))) :: (30, .v (.bool ((decide (300 < (b.length : Int)))))) :: (31, .v (.bool ((decide (300 < (b.length : Int)))))) :: [])) (init := [0, 1, 2]) (fin := [0, 1, 2, 17]) (sps := (⟨[1], [], [3], [(.slot 17)]⟩ :: ⟨[3, 1], [], [4], [(.slot 18)]⟩ :: ⟨[4], [], [5], [(.slot 19)]⟩ :: ⟨[5], [], [6], [(.slot 20)]⟩ :: ⟨[6], [], [7], [(.slot 21)]⟩ :: ⟨[7, 2], [], [8], [(.slot 22)]⟩ :: ⟨[7, 8, 2], [], [9], [(.slot 23)]⟩ :: ⟨[7, 9], [], [10], [(.slot 24)]⟩ :: ⟨[7, 10], [], [11], [(.slot 25)]⟩ :: ⟨[7, 11], [], [12], [(.slot 26)]⟩ :: ⟨[12], [], [13], [(.slot 27)]⟩ :: ⟨[13, 0], [], [14], [(.slot 28)]⟩ :: ⟨[13, 14], [], [15], [(.slot 29)]⟩ :: ⟨[13, 15], [], [16], [(.slot 30)]⟩ :: ⟨[13, 16], [], [17], [(.slot 31)]⟩ :: [])) (es' := [(_, _), (_, _), (_, _), (31, .v (.bool ((decide (300 < (b.length : Int))))))]) (by kernel_rfl) rfl rfl
          ⟨st_plain rfl (op_fieldAddr _ _ _ _ 3 0 _ Try.underlying24 rfl sz22 rfl rfl (by decide)),
            st_plain rfl (op_load _ _ _ _ _ _ Try.underlying22 rfl rfl rfl (Nat.le_of_ble_eq_true rfl) rfl rfl rfl),
            st_plain rfl (op_len_fl _ _ _ Try.underlying22 rfl (by decide) (map_len _)),
            st_plain rfl (op_bin _ _ _ _ _ rfl rfl rfl),
            st_plain rfl (op_move _ _ _ _ (congrArg (fun b => AV.v (Value.bool b)) hg1_4) rfl),
            st_run 4 21 false rfl rfl rfl (List.Mem.head _) (op_fieldAddr _ _ _ _ 4 0 _ Try.underlying24 rfl sz22 rfl rfl (by decide)),
            st_run 4 21 false rfl rfl rfl (List.Mem.head _) (op_load _ _ _ _ _ _ Try.underlying22 rfl rfl rfl (Nat.le_of_ble_eq_true rfl) rfl rfl rfl),
            st_run 4 21 false rfl rfl rfl (List.Mem.head _) (op_len_fl _ _ _ Try.underlying22 rfl (by decide) (map_len _)),
            st_run 4 21 false rfl rfl rfl (List.Mem.head _) (op_bin _ _ _ _ _ rfl rfl rfl),
            st_plain rfl (op_pick _ _ false _ rfl rfl),
            st_plain rfl (op_move _ _ _ _ (congrArg (fun b => AV.v (Value.bool b)) hg1_10) rfl),
            st_run 10 27 false rfl rfl rfl (List.Mem.head _) (op_move _ _ _ _ rfl rfl),
            st_run 10 27 false rfl rfl rfl (List.Mem.head _) (op_len_fl _ _ _ Try.underlying22 rfl (by decide) (map_len _)),
            st_run 10 27 false rfl rfl rfl (List.Mem.head _) (op_bin _ _ _ _ _ rfl rfl rfl),
            st_plain rfl (op_pick _ _ false _ rfl rfl),
            trivial⟩ ?_
        exact hl3 _ (Option.some.inj h).symm

set_option maxHeartbeats 1000000 in
theorem ok_frame_Spoil (b : (List Int)) (at_ : Int) (p_bits : Int) (r : (List Int)) (h : Sh.frame_Spoil b at_ p_bits = some r) : FnOK Try.prog 20 [.fl .shr 1 (List.map (Value.int .u8) b), .v (.int .i64 at_), .v (.int .i64 p_bits)] (.fl (.own 5) 1 (List.map (Value.int .u8) r)) := by
  unfold Sh.frame_Spoil at h
  refine fn_ok Try.func20 rfl (Nat.le_of_ble_eq_true rfl) rfl rfl fun g0 hn hio => ?_
  refine ht_seq ?_
  refine ht_seqR hn (El := [_, _, _, (6, .v (.slice none 0 0))]) (init := [0, 1, 2]) (fin := [0, 1, 2]) (sps := [⟨[], [], [3], [(.slot 6)]⟩]) (es' := [(_, _), (_, _), (_, _)]) (by kernel_rfl) rfl rfl
    ⟨st_plain rfl (op_assign _ _ _ _ rfl rfl),
      trivial⟩ ?_
  refine pt_then ?_
  refine ht_seq ?_
  obtain ⟨v1, hv1, h⟩ := bind_some h
  refine ht_seqR hn (El := [_, _, _, (12, .fl .shr 1 (List.map (Value.int .u8) b)), (13, .fl (.own 5) 1 (List.map (Value.int .u8) v1)), (7, .fl (.own 5) 1 (List.map (Value.int .u8) v1))]) (init := [0, 1, 2]) (fin := [1, 2, 5]) (sps := [⟨[0], [], [3], [(.slot 12)]⟩, ⟨[3], [], [4], [(.slot 13)]⟩, ⟨[], [4], [5], [(.slot 7)]⟩]) (es' := [(_, _), (_, _), (7, .fl (.own 5) 1 (List.map (Value.int .u8) v1))]) (by kernel_rfl) rfl rfl
    ⟨st_plain rfl (op_move _ _ _ _ rfl rfl),
      st_plain rfl (op_app_nil _ _ _ _ el22 rfl rfl (map_len _) hv1 (congrArg (List.map _) (app_nil_eq hv1))),
      st_plain rfl (op_assign_take _ _ _ _ rfl),
      trivial⟩ ?_
  refine pt_then ?_
  refine ht_seq ?_
  refine ht_seq ?_
  refine ht_seqR hn (El := [_, _, _, (14, .same (.slot 7)), (15, .v (.int .i64 (v1.length : Int))), (16, .v (.bool (((v1.length : Int) == 0))))]) (init := [0, 1, 2]) (fin := [0, 1, 2, 5]) (sps := [⟨[2], [], [3], [(.slot 14)]⟩, ⟨[3, 2], [], [4], [(.slot 15)]⟩, ⟨[4], [], [5], [(.slot 16)]⟩]) (es' := [(_, _), (_, _), (_, _), (16, .v (.bool (((v1.length : Int) == 0))))]) (by kernel_rfl) rfl rfl
    ⟨st_plain rfl (op_move _ _ _ _ rfl rfl),
      st_plain rfl (op_len_fl _ _ _ Try.underlying22 rfl (by decide) (map_len _)),
      st_plain rfl (op_bin _ _ _ _ _ rfl rfl rfl),
      trivial⟩ ?_
  refine pt_then ?_
  refine ht_cond _ rfl (fun hb2 => ?_) (fun hb2 => ?_)
  · have h := cond_t hb2 h
    refine ht_seq ?_
    refine ht_seqR hn (El := [_, _, _, _, (17, .fl (.own 5) 1 (List.map (Value.int .u8) v1)), (6, .fl (.own 5) 1 (List.map (Value.int .u8) v1))]) (init := [0, 1, 2, 3]) (fin := [5]) (sps := [⟨[], [2], [4], [(.slot 17)]⟩, ⟨[], [4], [5], [(.slot 6)]⟩]) (es' := [(6, .fl (.own 5) 1 (List.map (Value.int .u8) v1))]) (by kernel_rfl) rfl rfl
      ⟨st_plain rfl (op_move_take _ _ _ _ rfl),
        st_plain rfl (op_assign_take _ _ _ _ rfl),
        trivial⟩ ?_
    refine pt_then ?_
    refine ht_ret ?_
    refine pt_r_then ?_
    obtain rfl := Option.some.inj h
    exact pt_ret hio rfl (.tmp _ _ .nil) rfl rfl
  · have h := cond_f hb2 h
    refine ht_skip ?_
    refine pt_then ?_
    refine ht_seq ?_
    obtain ⟨v3, hv3, h⟩ := bind_some h
    obtain ⟨v4, hv4, h⟩ := bind_some h
    refine ht_seqR hn (El := [_, _, _, _, (18, .v (.int .i64 p_bits)), (19, .v (.int .u16 v3)), (20, .v (.int .u16 v4)), (8, .v (.int .u16 v4))]) (init := [0, 1, 2, 3]) (fin := [0, 2, 7]) (sps := [⟨[1], [], [4], [(.slot 18)]⟩, ⟨[4], [], [5], [(.slot 19)]⟩, ⟨[5], [], [6], [(.slot 20)]⟩, ⟨[6], [], [7], [(.slot 8)]⟩]) (es' := [(_, _), (_, _), (8, .v (.int .u16 v4))]) (by kernel_rfl) rfl rfl
      ⟨st_plain rfl (op_move _ _ _ _ rfl rfl),
        st_plain rfl ((Option.some.inj hv3) ▸ op_conv _ _ _ Try.underlying3 Try.underlying49 rfl),
        st_plain rfl (op_bin _ _ _ _ _ rfl rfl (ibind (f := Value.int .u16) (Option.some.inj hv4))),
        st_plain rfl (op_assign _ _ _ _ rfl rfl),
        trivial⟩ ?_
    refine pt_then ?_
    refine ht_seq ?_
    obtain ⟨v5, hv5, h⟩ := bind_some h
    obtain ⟨v6, hv6, h⟩ := bind_some h
    refine ht_seqR hn (El := [_, _, _, (21, .v (.int .i64 at_)), (22, .same (.slot 7)), (23, .v (.int .i64 (v1.length : Int))), (24, .v (.int .i64 v5)), (25, .v (.int .i64 v6)), (9, .v (.int .i64 v6))]) (init := [0, 1, 2]) (fin := [1, 2, 8]) (sps := [⟨[0], [], [3], [(.slot 21)]⟩, ⟨[1], [], [4], [(.slot 22)]⟩, ⟨[4, 1], [], [5], [(.slot 23)]⟩, ⟨[5], [], [6], [(.slot 24)]⟩, ⟨[3, 6], [], [7], [(.slot 25)]⟩, ⟨[7], [], [8], [(.slot 9)]⟩]) (es' := [(_, _), (_, _), (9, .v (.int .i64 v6))]) (by kernel_rfl) rfl rfl
      ⟨st_plain rfl (op_move _ _ _ _ rfl rfl),
        st_plain rfl (op_move _ _ _ _ rfl rfl),
        st_plain rfl (op_len_fl _ _ _ Try.underlying22 rfl (by decide) (map_len _)),
        st_plain rfl (op_bin _ _ _ _ _ rfl rfl (ibind (f := Value.int .i64) (Option.some.inj hv5))),
        st_plain rfl (op_bin _ _ _ _ _ rfl rfl (rem_ok hv6)),
        st_plain rfl (op_assign _ _ _ _ rfl rfl),
        trivial⟩ ?_
    refine pt_then ?_
    refine ht_seq ?_
    refine ht_joinS h (fun (s10 : Int) => [(7, .fl (.own 5) 1 (List.map (Value.int .u8) v1)), (8, .v (.int .u16 v4)), (9, .v (.int .i64 s10))]) ?_ ?_
    · rintro s10 h
      refine pt_then ?_
      refine ht_seq ?_
      refine ht_seq ?_
      refine ht_seqR hn (El := [_, _, _, (33, .v (.int .i64 0))]) (init := [0, 1, 2]) (fin := [0, 1, 2, 3]) (sps := [⟨[], [], [3], [(.slot 33)]⟩]) (es' := [(_, _), (_, _), (_, _), (33, .v (.int .i64 0))]) (by kernel_rfl) rfl rfl
        ⟨st_plain rfl (op_move _ _ _ _ rfl rfl),
          trivial⟩ ?_
      refine pt_then ?_
      refine ht_loopS h (fun ((s60, s61) : (List Int) × Int) => [(7, .fl (.own 5) 1 (List.map (Value.int .u8) s60)), (8, .v (.int .u16 v4)), (9, .v (.int .i64 s10)), (33, .v (.int .i64 s61))]) (fun (s77 : (List Int)) => [(7, .fl (.own 5) 1 (List.map (Value.int .u8) s77))]) ?_ ?_
      · rintro s77 h
        refine pt_then ?_
        refine ht_seq ?_
        refine ht_seqR hn (El := [_, (62, .fl (.own 5) 1 (List.map (Value.int .u8) s77)), (6, .fl (.own 5) 1 (List.map (Value.int .u8) s77))]) (init := [0]) (fin := [2]) (sps := [⟨[], [0], [1], [(.slot 62)]⟩, ⟨[], [1], [2], [(.slot 6)]⟩]) (es' := [(6, .fl (.own 5) 1 (List.map (Value.int .u8) s77))]) (by kernel_rfl) rfl rfl
          ⟨st_plain rfl (op_move_take _ _ _ _ rfl),
            st_plain rfl (op_assign_take _ _ _ _ rfl),
            trivial⟩ ?_
        refine pt_then ?_
        refine ht_ret ?_
        obtain rfl := Option.some.inj h
        exact pt_ret hio rfl (.tmp _ _ .nil) rfl rfl
      · rintro u78 hl79 hr80 ⟨s60, s61⟩ rr83 h ho81
        refine ht_seq ?_
        refine ht_seqR hn (El := [_, _, _, _, (34, .v (.bool ((decide (s61 < 16)))))]) (init := [0, 1, 2, 3]) (fin := [0, 1, 2, 3, 4]) (sps := [⟨[3], [], [4], [(.slot 34)]⟩]) (es' := [(_, _), (_, _), (_, _), (_, _), (34, .v (.bool ((decide (s61 < 16)))))]) (by kernel_rfl) rfl rfl
          ⟨st_plain rfl (op_bin _ _ _ _ _ rfl rfl rfl),
            trivial⟩ ?_
        refine pt_then ?_
        refine ht_seq ?_
        refine ht_cond _ rfl (fun hb84 => ?_) (fun hb84 => ?_)
        · have h := cond_t hb84 h
          refine ht_skip ?_
          refine pt_then ?_
          refine ht_seq ?_
          refine ht_joinS h (fun (s90 : (List Int)) => [(7, .fl (.own 5) 1 (List.map (Value.int .u8) s90)), (8, .v (.int .u16 v4)), (9, .v (.int .i64 s10)), (33, .v (.int .i64 s61))]) ?_ ?_
          · rintro s90 h
            refine pt_then ?_
            obtain ⟨v42, hv42, h⟩ := bind_some h
            refine ht_seqR hn (El := [_, _, _, _, (61, .v (.int .i64 v42)), (33, .v (.int .i64 v42))]) (init := [0, 1, 2, 3]) (fin := [0, 1, 2, 5]) (sps := [⟨[3], [], [4], [(.slot 61)]⟩, ⟨[4], [3], [5], [(.slot 33)]⟩]) (es' := [(_, _), (_, _), (_, _), (33, .v (.int .i64 v42))]) (by kernel_rfl) rfl rfl
              ⟨st_plain rfl (op_bin _ _ _ _ _ rfl rfl (ibind (f := Value.int .i64) (Option.some.inj hv42))),
                st_plain rfl (LOp.drop [_] (op_move _ _ _ _ rfl rfl)),
                trivial⟩ ?_
            exact pt_next _ (Option.some.inj h).symm rfl
          · intro u91 h hl92 hr93
            refine ht_block ?_
            refine ht_seq ?_
            refine ht_seqR hn (El := [_, _, _, _, _, (35, .v (.int .i64 s61)), (10, .v (.int .i64 s61))]) (init := [0, 1, 2, 3, 4]) (fin := [0, 1, 2, 3, 6]) (sps := [⟨[3], [], [5], [(.slot 35)]⟩, ⟨[5], [], [6], [(.slot 10)]⟩]) (es' := [(_, _), (_, _), (_, _), (_, _), (10, .v (.int .i64 s61))]) (by kernel_rfl) rfl rfl
              ⟨st_plain rfl (op_move _ _ _ _ rfl rfl),
                st_plain rfl (op_assign _ _ _ _ rfl rfl),
                trivial⟩ ?_
            refine pt_then ?_
            refine ht_seq ?_
            obtain ⟨v16, hv16, h⟩ := bind_some h
            refine ht_seqR hn (El := [_, _, _, _, _, (36, .v (.int .i64 s10)), (37, .v (.int .i64 s61)), (38, .v (.int .i64 v16)), (11, .v (.int .i64 v16))]) (init := [0, 1, 2, 3, 4]) (fin := [0, 1, 2, 3, 4, 8]) (sps := [⟨[2], [], [5], [(.slot 36)]⟩, ⟨[4], [], [6], [(.slot 37)]⟩, ⟨[5, 6], [], [7], [(.slot 38)]⟩, ⟨[7], [], [8], [(.slot 11)]⟩]) (es' := [(_, _), (_, _), (_, _), (_, _), (_, _), (11, .v (.int .i64 v16))]) (by kernel_rfl) rfl rfl
              ⟨st_plain rfl (op_move _ _ _ _ rfl rfl),
                st_plain rfl (op_move _ _ _ _ rfl rfl),
                st_plain rfl (op_bin _ _ _ _ _ rfl rfl (ibind (f := Value.int .i64) (Option.some.inj hv16))),
                st_plain rfl (op_assign _ _ _ _ rfl rfl),
                trivial⟩ ?_
            refine pt_then ?_
            refine ht_seq ?_
            refine ht_joinS h (fun (s94 : Bool) => [(7, .fl (.own 5) 1 (List.map (Value.int .u8) s60)), (8, .v (.int .u16 v4)), (9, .v (.int .i64 s10)), (33, .v (.int .i64 s61)), (11, .v (.int .i64 v16)), (50, .v (.bool s94))]) ?_ ?_
            · rintro s94 h
              refine pt_then ?_
              refine ht_cond _ rfl (fun hb98 => ?_) (fun hb98 => ?_)
              · have h := cond_t hb98 h
                obtain ⟨v25, hv25, h⟩ := bind_some h
                obtain ⟨v26, hv26, h⟩ := bind_some h
                obtain ⟨v27, hv27, h⟩ := bind_some h
                obtain ⟨v28, hv28, h⟩ := bind_some h
                obtain ⟨v29, hv29, h⟩ := bind_some h
                obtain ⟨v30, hv30, h⟩ := bind_some h
                obtain ⟨v31, hv31, h⟩ := bind_some h
                obtain ⟨v32, hv32, h⟩ := bind_some h
                refine ht_anyR (by kernel_rfl) hn (El := (_ :: _ :: _ :: _ :: _ :: _ :: (51, .same (.slot 7)) :: (52, .v (.int .i64 v16)) :: (53, .v (.int .i64 v25)) :: (54, .eref (.slot 7) (v26 * 1)) :: (55, .v (.int .u8 v27)) :: (56, .v (.int .i64 v16)) :: (57, .v (.int .i64 v28)) :: (58, .v (.int .u8 v29)) :: (59, .v (.int .u8 v30)) :: (60, .eref (.slot 7) (v31 * 1)) :: (7, .fl (.own 5) 1 (List.map (Value.int .u8) v32)) :: [])) (init := [0, 1, 2, 3, 4, 5]) (fin := [16, 1, 2, 3]) (sps := [⟨[0], [], [6], [(.slot 51)]⟩, ⟨[4], [], [7], [(.slot 52)]⟩, ⟨[7], [], [8], [(.slot 53)]⟩, ⟨[6, 0, 8], [], [9], [(.slot 54)]⟩, ⟨[9, 0], [], [10], [(.slot 55)]⟩, ⟨[4], [], [11], [(.slot 56)]⟩, ⟨[11], [], [12], [(.slot 57)]⟩, ⟨[12], [], [13], [(.slot 58)]⟩, ⟨[10, 13], [], [14], [(.slot 59)]⟩, ⟨[6, 0, 8], [], [15], [(.slot 60)]⟩, ⟨[15, 14], [0], [16], []⟩]) (es' := [(7, .fl (.own 5) 1 (List.map (Value.int .u8) v32)), (_, _), (_, _), (_, _)]) (by kernel_rfl) rfl rfl
                  ⟨st_plain rfl (op_move _ _ _ _ rfl rfl),
                    st_plain rfl (op_move _ _ _ _ rfl rfl),
                    st_plain rfl (op_bin _ _ _ _ _ rfl rfl (quo_ok hv25)),
                    st_plain rfl (op_ix _ _ _ _ _ _ _ _ Try.underlying22 sz5 (by decide) rfl rfl rfl (ix_ok hv26).1 (map_lt (ix_ok hv26).2) rfl),
                    st_plain rfl (op_load_e _ _ _ _ _ _ Try.underlying5 rfl rfl rfl (map_get hv27)),
                    st_plain rfl (op_move _ _ _ _ rfl rfl),
                    st_plain rfl (op_bin _ _ _ _ _ rfl rfl (rem_ok hv28)),
                    st_plain rfl (op_bin _ _ _ _ _ rfl rfl (shl_ok hv29)),
                    st_plain rfl (op_bin _ _ _ _ _ rfl rfl (ibind (f := Value.int .u8) (Option.some.inj hv30))),
                    st_plain rfl (op_ix _ _ _ _ _ _ _ _ Try.underlying22 sz5 (by decide) rfl rfl rfl (ix_ok hv31).1 (map_lt (ix_ok hv31).2) rfl),
                    st_plain rfl (op_store_e _ _ _ _ _ _ _ _ sz5 rfl rfl rfl (by decide) (map_lt (ix_ok hv31).2) ((map_set (f := Value.int .u8) _ (ix_ok hv31).2).trans (congrArg (List.map _) (Option.some.inj hv32)))),
                    trivial⟩ ?_
                refine pt_inb ?_
                exact hl92 _ (Option.some.inj h).symm
              · have h := cond_f hb98 h
                refine ht_skip ?_
                refine pt_inb ?_
                refine pt_pick [0, 1, 2, 3] (by kernel_rfl) (es' := [(_, _), (_, _), (_, _), (_, _)]) rfl ?_
                exact hl92 _ (Option.some.inj h).symm
            · intro u95 h hl96 hr97
              obtain ⟨v17, hv17, h⟩ := bind_some h
              refine cond_some h (fun hg12_5 h => ?_) (fun hg12_5 h => ?_)
              · obtain ⟨v18, hv18, h⟩ := bind_some h
                obtain ⟨v19, hv19, h⟩ := bind_some h
                refine ht_seqR hn (El := (_ :: _ :: _ :: _ :: _ :: _ :: (39, .v (.int .i64 v16)) :: (40, .same (.slot 7)) :: (41, .v (.int .i64 (s60.length : Int))) :: (42, .v (.int .i64 v17)) :: (43, .v (.bool ((decide (v16 < v17))))) :: (44, .v (.bool true)) :: (45, .v (.int .u16 v4)) :: (46, .v (.int .i64 s61)) :: (47, .v (.int .u16 v18)) :: (48, .v (.int .u16 v19)) :: (49, .v (.bool (v19 == 1))) :: (50, .v (.bool (v19 == 1))) :: [])) (init := [0, 1, 2, 3, 4, 5]) (fin := [0, 1, 2, 3, 5, 17]) (sps := [⟨[5], [], [6], [(.slot 39)]⟩, ⟨[0], [], [7], [(.slot 40)]⟩, ⟨[7, 0], [], [8], [(.slot 41)]⟩, ⟨[8], [], [9], [(.slot 42)]⟩, ⟨[6, 9], [], [10], [(.slot 43)]⟩, ⟨[10], [], [11], [(.slot 44)]⟩, ⟨[11, 1], [], [12], [(.slot 45)]⟩, ⟨[11, 4], [], [13], [(.slot 46)]⟩, ⟨[11, 12, 13], [], [14], [(.slot 47)]⟩, ⟨[11, 14], [], [15], [(.slot 48)]⟩, ⟨[11, 15], [], [16], [(.slot 49)]⟩, ⟨[11, 16], [], [17], [(.slot 50)]⟩]) (es' := [(_, _), (_, _), (_, _), (_, _), (_, _), (50, .v (.bool (v19 == 1)))]) (by kernel_rfl) rfl rfl
                  ⟨st_plain rfl (op_move _ _ _ _ rfl rfl),
                    st_plain rfl (op_move _ _ _ _ rfl rfl),
                    st_plain rfl (op_len_fl _ _ _ Try.underlying22 rfl (by decide) (map_len _)),
                    st_plain rfl (op_bin _ _ _ _ _ rfl rfl (ibind (f := Value.int .i64) (Option.some.inj hv17))),
                    st_plain rfl (op_bin _ _ _ _ _ rfl rfl rfl),
                    st_plain rfl (op_move _ _ _ _ (congrArg (fun b => AV.v (Value.bool b)) hg12_5) rfl),
                    st_run 5 44 true rfl rfl rfl (List.Mem.head _) (op_move _ _ _ _ rfl rfl),
                    st_run 5 44 true rfl rfl rfl (List.Mem.head _) (op_move _ _ _ _ rfl rfl),
                    st_run 5 44 true rfl rfl rfl (List.Mem.head _) (op_bin _ _ _ _ _ rfl rfl (shr_ok hv18)),
                    st_run 5 44 true rfl rfl rfl (List.Mem.head _) (op_bin _ _ _ _ _ rfl rfl (ibind (f := Value.int .u16) (Option.some.inj hv19))),
                    st_run 5 44 true rfl rfl rfl (List.Mem.head _) (op_bin _ _ _ _ _ rfl rfl rfl),
                    st_plain rfl (op_pick _ _ true _ rfl rfl),
                    trivial⟩ ?_
                exact hl96 _ (Option.some.inj h).symm
              · refine ht_seqR hn (El := (_ :: _ :: _ :: _ :: _ :: _ :: (39, .v (.int .i64 v16)) :: (40, .same (.slot 7)) :: (41, .v (.int .i64 (s60.length : Int))) :: (42, .v (.int .i64 v17)) :: (43, .v (.bool ((decide (v16 < v17))))) :: (44, .v (.bool false)) :: (45, .v undef) :: (46, .v undef) :: (47, .v undef) :: (48, .v undef) :: (49, .v undef) :: (50, .v (.bool false)) :: [])) (init := [0, 1, 2, 3, 4, 5]) (fin := [0, 1, 2, 3, 5, 17]) (sps := [⟨[5], [], [6], [(.slot 39)]⟩, ⟨[0], [], [7], [(.slot 40)]⟩, ⟨[7, 0], [], [8], [(.slot 41)]⟩, ⟨[8], [], [9], [(.slot 42)]⟩, ⟨[6, 9], [], [10], [(.slot 43)]⟩, ⟨[10], [], [11], [(.slot 44)]⟩, ⟨[11], [], [12], [(.slot 45)]⟩, ⟨[11], [], [13], [(.slot 46)]⟩, ⟨[11], [], [14], [(.slot 47)]⟩, ⟨[11], [], [15], [(.slot 48)]⟩, ⟨[11], [], [16], [(.slot 49)]⟩, ⟨[11], [], [17], [(.slot 50)]⟩]) (es' := [(_, _), (_, _), (_, _), (_, _), (_, _), (50, .v (.bool false))]) (by kernel_rfl) rfl rfl
                  ⟨st_plain rfl (op_move _ _ _ _ rfl rfl),
                    st_plain rfl (op_move _ _ _ _ rfl rfl),
                    st_plain rfl (op_len_fl _ _ _ Try.underlying22 rfl (by decide) (map_len _)),
                    st_plain rfl (op_bin _ _ _ _ _ rfl rfl (ibind (f := Value.int .i64) (Option.some.inj hv17))),
                    st_plain rfl (op_bin _ _ _ _ _ rfl rfl rfl),
                    st_plain rfl (op_move _ _ _ _ (congrArg (fun b => AV.v (Value.bool b)) hg12_5) rfl),
                    st_skip 5 44 _ true rfl rfl rfl rfl (List.Mem.head _),
                    st_skip 5 44 _ true rfl rfl rfl rfl (List.Mem.head _),
                    st_skip 5 44 _ true rfl rfl rfl rfl (List.Mem.head _),
                    st_skip 5 44 _ true rfl rfl rfl rfl (List.Mem.head _),
                    st_skip 5 44 _ true rfl rfl rfl rfl (List.Mem.head _),
                    st_plain rfl (op_pick _ _ false _ rfl rfl),
                    trivial⟩ ?_
                exact hl96 _ (Option.some.inj h).symm
        · have h := cond_f hb84 h
          refine ht_exit ?_
          refine pt_x_then ?_
          refine pt_x_then ?_
          refine pt_x_in ?_
          refine pt_pick [0] (by kernel_rfl) (es' := [(_, _)]) rfl ?_
          exact hl79 _ (ho81 _ (Option.some.inj h).symm).symm
    · intro u11 h hl12 hr13
      refine ht_seq ?_
      refine ht_seqR hn (El := [_, _, _, (26, .v (.int .i64 v6)), (27, .v (.bool ((decide (v6 < 0)))))]) (init := [0, 1, 2]) (fin := [0, 1, 2, 4]) (sps := [⟨[2], [], [3], [(.slot 26)]⟩, ⟨[3], [], [4], [(.slot 27)]⟩]) (es' := [(_, _), (_, _), (_, _), (27, .v (.bool ((decide (v6 < 0)))))]) (by kernel_rfl) rfl rfl
        ⟨st_plain rfl (op_move _ _ _ _ rfl rfl),
          st_plain rfl (op_bin _ _ _ _ _ rfl rfl rfl),
          trivial⟩ ?_
      refine pt_then ?_
      refine ht_cond _ rfl (fun hb14 => ?_) (fun hb14 => ?_)
      · have h := cond_t hb14 h
        obtain ⟨v8, hv8, h⟩ := bind_some h
        obtain ⟨v9, hv9, h⟩ := bind_some h
        refine ht_seqR hn (El := [_, _, _, _, (28, .v (.int .i64 v6)), (29, .same (.slot 7)), (30, .v (.int .i64 (v1.length : Int))), (31, .v (.int .i64 v8)), (32, .v (.int .i64 v9)), (9, .v (.int .i64 v9))]) (init := [0, 1, 2, 3]) (fin := [0, 1, 9]) (sps := [⟨[2], [], [4], [(.slot 28)]⟩, ⟨[0], [], [5], [(.slot 29)]⟩, ⟨[5, 0], [], [6], [(.slot 30)]⟩, ⟨[6], [], [7], [(.slot 31)]⟩, ⟨[4, 7], [], [8], [(.slot 32)]⟩, ⟨[8], [2], [9], [(.slot 9)]⟩]) (es' := [(_, _), (_, _), (9, .v (.int .i64 v9))]) (by kernel_rfl) rfl rfl
          ⟨st_plain rfl (op_move _ _ _ _ rfl rfl),
            st_plain rfl (op_move _ _ _ _ rfl rfl),
            st_plain rfl (op_len_fl _ _ _ Try.underlying22 rfl (by decide) (map_len _)),
            st_plain rfl (op_bin _ _ _ _ _ rfl rfl (ibind (f := Value.int .i64) (Option.some.inj hv8))),
            st_plain rfl (op_bin _ _ _ _ _ rfl rfl (ibind (f := Value.int .i64) (Option.some.inj hv9))),
            st_plain rfl (LOp.drop [_] (op_assign _ _ _ _ rfl rfl)),
            trivial⟩ ?_
        exact hl12 _ (Option.some.inj h).symm
      · have h := cond_f hb14 h
        refine ht_skip ?_
        refine pt_pick [0, 1, 2] (by kernel_rfl) (es' := [(_, _), (_, _), (_, _)]) rfl ?_
        exact hl12 _ (Option.some.inj h).symm

set_option maxHeartbeats 1000000 in
theorem ok_wherrylaw20_FrameSpoilt (f : T_Frame) (at_ : Int) (p_bits : Int) (r : Bool) (h : Sh.wherrylaw20_FrameSpoilt f at_ p_bits = some r) : FnOK Try.prog 5 [.agg [.v (.int .i64 f.Kind), .v (.int .i64 f.Number), .v (.int .i64 f.Offset), .v (.int .i64 f.Seq), .fl .shr 1 (List.map (Value.int .u8) f.Data)], .v (.int .i64 at_), .v (.int .i64 p_bits)] (.v (.bool r)) := by
  unfold Sh.wherrylaw20_FrameSpoilt at h
  refine fn_ok Try.func5 rfl (Nat.le_of_ble_eq_true rfl) rfl rfl fun g0 hn hio => ?_
  refine ht_seq ?_
  refine ht_seqR hn (El := [_, _, _, (3, .box 24 [.v (.int .i64 f.Kind), .v (.int .i64 f.Number), .v (.int .i64 f.Offset), .v (.int .i64 f.Seq), .fl .shr 1 (List.map (Value.int .u8) f.Data)]), (6, .v (.bool false))]) (init := [0, 1, 2]) (fin := [1, 2, 3]) (sps := [⟨[0], [], [3], [(.slot 3)]⟩, ⟨[], [], [4], [(.slot 6)]⟩]) (es' := [(_, _), (_, _), (3, .box 24 [.v (.int .i64 f.Kind), .v (.int .i64 f.Number), .v (.int .i64 f.Offset), .v (.int .i64 f.Seq), .fl .shr 1 (List.map (Value.int .u8) f.Data)])]) (by kernel_rfl) rfl rfl
    ⟨st_plain rfl (op_box _ _ _ _ rfl rfl rfl),
      st_plain rfl (op_assign _ _ _ _ rfl rfl),
      trivial⟩ ?_
  refine pt_then ?_
  refine ht_seq ?_
  refine ht_seq ?_
  refine ht_seqR hn (El := [_, _, _, (12, .ptr 3 4), (13, .fl .shr 1 (List.map (Value.int .u8) f.Data)), (14, .v (.int .i64 (f.Data.length : Int))), (15, .v (.bool ((decide (300 < (f.Data.length : Int))))))]) (init := [0, 1, 2]) (fin := [0, 1, 2, 6]) (sps := [⟨[2], [], [3], [(.slot 12)]⟩, ⟨[3, 2], [], [4], [(.slot 13)]⟩, ⟨[4], [], [5], [(.slot 14)]⟩, ⟨[5], [], [6], [(.slot 15)]⟩]) (es' := [(_, _), (_, _), (_, _), (15, .v (.bool ((decide (300 < (f.Data.length : Int))))))]) (by kernel_rfl) rfl rfl
    ⟨st_plain rfl (op_fieldAddr _ _ _ _ 3 0 _ Try.underlying24 rfl sz22 rfl rfl (by decide)),
      st_plain rfl (op_load _ _ _ _ _ _ Try.underlying22 rfl rfl rfl (Nat.le_of_ble_eq_true rfl) rfl rfl rfl),
      st_plain rfl (op_len_fl _ _ _ Try.underlying22 rfl (by decide) (map_len _)),
      st_plain rfl (op_bin _ _ _ _ _ rfl rfl rfl),
      trivial⟩ ?_
  refine pt_then ?_
  refine ht_cond _ rfl (fun hb1 => ?_) (fun hb1 => ?_)
  · have h := cond_t hb1 h
    refine ht_seq ?_
    refine ht_seqR hn (El := [_, _, _, _, (6, .v (.bool true))]) (init := [0, 1, 2, 3]) (fin := [4]) (sps := [⟨[], [], [4], [(.slot 6)]⟩]) (es' := [(6, .v (.bool true))]) (by kernel_rfl) rfl rfl
      ⟨st_plain rfl (op_assign _ _ _ _ rfl rfl),
        trivial⟩ ?_
    refine pt_then ?_
    refine ht_ret ?_
    refine pt_r_then ?_
    obtain rfl := Option.some.inj h
    exact pt_ret hio rfl (.tmp _ _ .nil) rfl rfl
  · have h := cond_f hb1 h
    refine ht_skip ?_
    refine pt_then ?_
    refine ht_seq ?_
    obtain ⟨v2, hv2, h⟩ := bind_some h
    refine ht_seqR hn (El := [_, _, _, _, (17, .agg [.v (.int .i64 f.Kind), .v (.int .i64 f.Number), .v (.int .i64 f.Offset), .v (.int .i64 f.Seq), .fl .shr 1 (List.map (Value.int .u8) f.Data)]), (18, .tup [.fl (.own 5) 1 (List.map (Value.int .u8) v2.1), .v (.int .i64 v2.2)]), (16, .tup [.fl (.own 5) 1 (List.map (Value.int .u8) v2.1), .v (.int .i64 v2.2)]), (19, .fl (.own 5) 1 (List.map (Value.int .u8) v2.1)), (16, .tup [.any, .v (.int .i64 v2.2)]), (20, .v (.int .i64 v2.2)), (7, .fl (.own 5) 1 (List.map (Value.int .u8) v2.1)), (8, .v (.int .i64 v2.2))]) (init := [0, 1, 2, 3]) (fin := [0, 1, 10, 11]) (sps := [⟨[2], [], [4], [(.slot 17)]⟩, ⟨[4], [], [5], [(.slot 18)]⟩, ⟨[], [5], [6], [(.slot 16)]⟩, ⟨[], [6], [8, 7], [(.slot 19)]⟩, ⟨[8], [], [9], [(.slot 20)]⟩, ⟨[], [7], [10], [(.slot 7)]⟩, ⟨[9], [], [11], [(.slot 8)]⟩]) (es' := [(_, _), (_, _), (7, .fl (.own 5) 1 (List.map (Value.int .u8) v2.1)), (8, .v (.int .i64 v2.2))]) (by kernel_rfl) rfl rfl
      ⟨st_plain rfl (op_loadA _ _ _ _ _ _ _ Try.underlying24 rfl sz24 rfl rfl (Nat.le_of_ble_eq_true rfl) rfl rfl),
        st_plain rfl (op_call _ _ 12 _ _ rfl Try.call12 rfl (ok_frame_Bytes f _ hv2) rfl rfl),
        st_plain rfl (op_move_take _ _ _ _ rfl),
        st_plain rfl (op_extract_take _ _ _ _ _ rfl (Nat.le_of_ble_eq_true rfl) rfl rfl (by decide) rfl),
        st_plain rfl (op_extract _ _ _ _ _ rfl rfl (Nat.le_of_ble_eq_true rfl) rfl rfl),
        st_plain rfl (op_assign_take _ _ _ _ rfl),
        st_plain rfl (op_assign _ _ _ _ rfl rfl),
        trivial⟩ ?_
    refine pt_then ?_
    refine ht_seq ?_
    refine ht_seq ?_
    refine ht_seqR hn (El := [_, _, _, _, (21, .v (.int .i64 v2.2)), (22, .v (.bool (v2.2 != 0)))]) (init := [0, 1, 2, 3]) (fin := [0, 1, 2, 5]) (sps := [⟨[3], [], [4], [(.slot 21)]⟩, ⟨[4], [], [5], [(.slot 22)]⟩]) (es' := [(_, _), (_, _), (_, _), (22, .v (.bool (v2.2 != 0)))]) (by kernel_rfl) rfl rfl
      ⟨st_plain rfl (op_move _ _ _ _ rfl rfl),
        st_plain rfl (op_bin _ _ _ _ _ rfl rfl rfl),
        trivial⟩ ?_
    refine pt_then ?_
    refine ht_cond _ rfl (fun hb3 => ?_) (fun hb3 => ?_)
    · have h := cond_t hb3 h
      refine ht_seq ?_
      obtain ⟨v4, hv4, h⟩ := bind_some h
      refine ht_seqR hn (El := [_, _, _, _, (23, .v (.bool v4)), (6, .v (.bool v4))]) (init := [0, 1, 2, 3]) (fin := [5]) (sps := [⟨[], [], [4], [(.slot 23)]⟩, ⟨[4], [], [5], [(.slot 6)]⟩]) (es' := [(6, .v (.bool v4))]) (by kernel_rfl) rfl rfl
        ⟨st_plain rfl (op_call _ _ 23 _ _ rfl Try.call23 rfl (ok_wherrylaw20_wakes  _ hv4) rfl rfl),
          st_plain rfl (op_assign _ _ _ _ rfl rfl),
          trivial⟩ ?_
      refine pt_then ?_
      refine ht_ret ?_
      refine pt_r_then ?_
      obtain rfl := Option.some.inj h
      exact pt_ret hio rfl (.tmp _ _ .nil) rfl rfl
    · have h := cond_f hb3 h
      refine ht_skip ?_
      refine pt_then ?_
      refine ht_seq ?_
      obtain ⟨v5, hv5, h⟩ := bind_some h
      refine ht_seqR hn (El := [_, _, _, _, (24, .same (.slot 7)), (25, .v (.int .i64 at_)), (26, .v (.int .i64 p_bits)), (27, .fl (.own 5) 1 (List.map (Value.int .u8) v5)), (9, .fl (.own 5) 1 (List.map (Value.int .u8) v5))]) (init := [0, 1, 2, 3]) (fin := [0, 1, 2, 8]) (sps := [⟨[2], [], [4], [(.slot 24)]⟩, ⟨[0], [], [5], [(.slot 25)]⟩, ⟨[1], [], [6], [(.slot 26)]⟩, ⟨[4, 2, 5, 6], [], [7], [(.slot 27)]⟩, ⟨[], [7], [8], [(.slot 9)]⟩]) (es' := [(_, _), (_, _), (_, _), (9, .fl (.own 5) 1 (List.map (Value.int .u8) v5))]) (by kernel_rfl) rfl rfl
        ⟨st_plain rfl (op_move _ _ _ _ rfl rfl),
          st_plain rfl (op_move _ _ _ _ rfl rfl),
          st_plain rfl (op_move _ _ _ _ rfl rfl),
          st_plain rfl (op_call _ _ 20 _ _ rfl Try.call20 rfl (ok_frame_Spoil v2.1 at_ p_bits _ hv5) rfl rfl),
          st_plain rfl (op_assign_take _ _ _ _ rfl),
          trivial⟩ ?_
      refine pt_then ?_
      refine ht_seq ?_
      obtain ⟨v6, hv6, h⟩ := bind_some h
      refine ht_seqR hn (El := [_, _, _, _, (29, .same (.slot 9)), (30, .tup [.agg [.v (.int .i64 v6.1.Kind), .v (.int .i64 v6.1.Number), .v (.int .i64 v6.1.Offset), .v (.int .i64 v6.1.Seq), .fl (.own 5) 1 (List.map (Value.int .u8) v6.1.Data)], .v (.int .i64 v6.2)]), (28, .tup [.agg [.v (.int .i64 v6.1.Kind), .v (.int .i64 v6.1.Number), .v (.int .i64 v6.1.Offset), .v (.int .i64 v6.1.Seq), .fl (.own 5) 1 (List.map (Value.int .u8) v6.1.Data)], .v (.int .i64 v6.2)]), (31, .agg [.v (.int .i64 v6.1.Kind), .v (.int .i64 v6.1.Number), .v (.int .i64 v6.1.Offset), .v (.int .i64 v6.1.Seq), .fl (.own 5) 1 (List.map (Value.int .u8) v6.1.Data)]), (28, .tup [.any, .v (.int .i64 v6.2)]), (32, .v (.int .i64 v6.2)), (10, .box 24 [.v (.int .i64 0), .v (.int .i64 0), .v (.int .i64 0), .v (.int .i64 0), .v (.slice none 0 0)]), (10, .box 24 [.v (.int .i64 v6.1.Kind), .v (.int .i64 v6.1.Number), .v (.int .i64 v6.1.Offset), .v (.int .i64 v6.1.Seq), .fl (.own 5) 1 (List.map (Value.int .u8) v6.1.Data)]), (11, .v (.int .i64 v6.2))]) (init := [0, 1, 2, 3]) (fin := [0, 1, 2, 3, 11, 12]) (sps := [⟨[3], [], [4], [(.slot 29)]⟩, ⟨[4, 3], [], [5], [(.slot 30)]⟩, ⟨[], [5], [6], [(.slot 28)]⟩, ⟨[], [6], [8, 7], [(.slot 31)]⟩, ⟨[8], [], [9], [(.slot 32)]⟩, ⟨[], [], [10], [(.slot 10)]⟩, ⟨[], [7, 10], [11], [.cell 10 0, .cell 10 1, .cell 10 2, .cell 10 3, .cell 10 4]⟩, ⟨[9], [], [12], [(.slot 11)]⟩]) (es' := [(_, _), (_, _), (_, _), (_, _), (10, .box 24 [.v (.int .i64 v6.1.Kind), .v (.int .i64 v6.1.Number), .v (.int .i64 v6.1.Offset), .v (.int .i64 v6.1.Seq), .fl (.own 5) 1 (List.map (Value.int .u8) v6.1.Data)]), (11, .v (.int .i64 v6.2))]) (by kernel_rfl) rfl rfl
        ⟨st_plain rfl (op_move _ _ _ _ rfl rfl),
          st_plain rfl (op_call _ _ 13 _ _ rfl Try.call13 rfl (ok_frame_Read v5 _ hv6) rfl rfl),
          st_plain rfl (op_move_take _ _ _ _ rfl),
          st_plain rfl (op_extract_take _ _ _ _ _ rfl (Nat.le_of_ble_eq_true rfl) rfl rfl (by decide) rfl),
          st_plain rfl (op_extract _ _ _ _ _ rfl rfl (Nat.le_of_ble_eq_true rfl) rfl rfl),
          st_plain rfl (op_alloc _ _ zr24),
          st_plain rfl (op_store_take _ _ _ _ _ _ _ _ sz24 rfl rfl rfl (Nat.le_of_ble_eq_true rfl) rfl rfl),
          st_plain rfl (op_assign _ _ _ _ rfl rfl),
          trivial⟩ ?_
      refine pt_then ?_
      refine ht_seq ?_
      refine ht_joinS h (fun (s12 : Bool) => [(6, .v (.bool s12))]) ?_ ?_
      · rintro s12 h
        refine pt_then ?_
        refine ht_ret ?_
        obtain rfl := Option.some.inj h
        exact pt_ret hio rfl (.tmp _ _ .nil) rfl rfl
      · intro u13 h hl14 hr15
        refine cond_some h (fun hg8_2 h => ?_) (fun hg8_2 h => ?_)
        · obtain ⟨v7, hv7, h⟩ := bind_some h
          refine cond_some h (fun hg8_7 h => ?_) (fun hg8_7 h => ?_)
          · refine cond_some h (fun hg8_14 h => ?_) (fun hg8_14 h => ?_)
            · obtain ⟨v8, hv8, h⟩ := bind_some h
              refine cond_some h (fun hg8_20 h => ?_) (fun hg8_20 h => ?_)
              · obtain ⟨v9, hv9, h⟩ := bind_some h
                obtain ⟨v10, hv10, h⟩ := bind_some h
                refine cond_some h (fun hg8_28 h => ?_) (fun hg8_28 h => ?_)
                · obtain ⟨v11, hv11, h⟩ := bind_some h
                  refine ht_seqR hn (El := (_ :: _ :: _ :: _ :: _ :: _ :: (33, .v (.int .i64 v6.2)) :: (34, .v (.bool (v6.2 == 6))) :: (35, .v (.bool true)) :: (36, .agg [.v (.int .i64 v6.1.Kind), .v (.int .i64 v6.1.Number), .v (.int .i64 v6.1.Offset), .v (.int .i64 v6.1.Seq), .fl (.own 5) 1 (List.map (Value.int .u8) v6.1.Data)]) :: (37, .agg [.v (.int .i64 0), .v (.int .i64 0), .v (.int .i64 0), .v (.int .i64 0), .v (.slice none 0 0)]) :: (38, .v (.bool v7)) :: (39, .v (.bool v7)) :: (40, .v (.bool true)) :: (41, .same (.slot 9)) :: (42, .v (.int .i64 (v5.length : Int))) :: (43, .same (.slot 7)) :: (44, .v (.int .i64 (v2.1.length : Int))) :: (45, .v (.bool (((v5.length : Int) == (v2.1.length : Int))))) :: (46, .v (.bool (((v5.length : Int) == (v2.1.length : Int))))) :: (47, .v (.bool true)) :: (48, .same (.slot 9)) :: (49, .same (.slot 7)) :: (50, .v (.bool v8)) :: (51, .v (.bool (!v8))) :: (52, .v (.bool (!v8))) :: (53, .v (.bool true)) :: (54, .fl (.own 5) 1 (List.map (Value.int .u8) v5)) :: (55, .v (.int .i64 at_)) :: (56, .v (.int .i64 p_bits)) :: (57, .fl (.own 5) 1 (List.map (Value.int .u8) v9)) :: (58, .fl (.own 5) 1 (List.map (Value.int .u8) v2.1)) :: (59, .v (.bool v10)) :: (60, .v (.bool v10)) :: (61, .v (.bool true)) :: (62, .v (.bool v11)) :: (63, .v (.bool v11)) :: (6, .v (.bool v11)) :: [])) (init := [0, 1, 2, 3, 4, 5]) (fin := [37]) (sps := (⟨[5], [], [6], [(.slot 33)]⟩ :: ⟨[6], [], [7], [(.slot 34)]⟩ :: ⟨[7], [], [8], [(.slot 35)]⟩ :: ⟨[8], [4], [9], [(.slot 36)]⟩ :: ⟨[8], [], [10], [(.slot 37)]⟩ :: ⟨[8, 9, 10], [], [11], [(.slot 38)]⟩ :: ⟨[8, 11], [], [12], [(.slot 39)]⟩ :: ⟨[12], [], [13], [(.slot 40)]⟩ :: ⟨[13, 3], [], [14], [(.slot 41)]⟩ :: ⟨[13, 14, 3], [], [15], [(.slot 42)]⟩ :: ⟨[13, 2], [], [16], [(.slot 43)]⟩ :: ⟨[13, 16, 2], [], [17], [(.slot 44)]⟩ :: ⟨[13, 15, 17], [], [18], [(.slot 45)]⟩ :: ⟨[13, 18], [], [19], [(.slot 46)]⟩ :: ⟨[19], [], [20], [(.slot 47)]⟩ :: ⟨[20, 3], [], [21], [(.slot 48)]⟩ :: ⟨[20, 2], [], [22], [(.slot 49)]⟩ :: ⟨[20, 21, 3, 22, 2], [], [23], [(.slot 50)]⟩ :: ⟨[20, 23], [], [24], [(.slot 51)]⟩ :: ⟨[20, 24], [], [25], [(.slot 52)]⟩ :: ⟨[25], [], [26], [(.slot 53)]⟩ :: ⟨[26], [14, 21, 3], [27], [(.slot 54)]⟩ :: ⟨[26, 0], [], [28], [(.slot 55)]⟩ :: ⟨[26, 1], [], [29], [(.slot 56)]⟩ :: ⟨[26, 27, 28, 29], [], [30], [(.slot 57)]⟩ :: ⟨[26], [16, 22, 2], [31], [(.slot 58)]⟩ :: ⟨[26, 30, 31], [], [32], [(.slot 59)]⟩ :: ⟨[26, 32], [], [33], [(.slot 60)]⟩ :: ⟨[33], [], [34], [(.slot 61)]⟩ :: ⟨[34], [], [35], [(.slot 62)]⟩ :: ⟨[34, 35], [], [36], [(.slot 63)]⟩ :: ⟨[36], [], [37], [(.slot 6)]⟩ :: [])) (es' := [(6, .v (.bool v11))]) (by kernel_rfl) rfl rfl
                    ⟨st_plain rfl (op_move _ _ _ _ rfl rfl),
                      st_plain rfl (op_bin _ _ _ _ _ rfl rfl rfl),
                      st_plain rfl (op_move _ _ _ _ (congrArg (fun b => AV.v (Value.bool b)) hg8_2) rfl),
                      st_run 2 35 true rfl rfl rfl (List.Mem.head _) (op_loadA_take _ _ _ _ Try.underlying24 rfl sz24 rfl rfl),
                      st_run 2 35 true rfl rfl rfl (List.Mem.head _) (op_build _ _ _ _ [1, 1, 1, 1, 1] _ _ Try.underlying24 zr24 (fs24 _ Try.underlying24) Src.nil rfl rfl rfl),
                      st_run 2 35 true rfl rfl rfl (List.Mem.head _) (op_call _ _ 19 _ _ rfl Try.call19 rfl ((ok_wherrykeep_Frame v6.1 (T_Frame.mk 0 0 0 0 []) _ hv7).args (subs_cons (sub_refl _) (subs_cons (sub_agg (subs_cons (sub_refl _) (subs_cons (sub_refl _) (subs_cons (sub_refl _) (subs_cons (sub_refl _) (subs_cons (sub_nil_shr 1) (subs_nil))))))) (subs_nil)))) rfl rfl),
                      st_plain rfl (op_pick _ _ true _ rfl rfl),
                      st_plain rfl (op_move _ _ _ _ (congrArg (fun b => AV.v (Value.bool b)) hg8_7) rfl),
                      st_run 7 40 true rfl rfl rfl (List.Mem.head _) (op_move _ _ _ _ rfl rfl),
                      st_run 7 40 true rfl rfl rfl (List.Mem.head _) (op_len_fl _ _ _ Try.underlying22 rfl (by decide) (map_len _)),
                      st_run 7 40 true rfl rfl rfl (List.Mem.head _) (op_move _ _ _ _ rfl rfl),
                      st_run 7 40 true rfl rfl rfl (List.Mem.head _) (op_len_fl _ _ _ Try.underlying22 rfl (by decide) (map_len _)),
                      st_run 7 40 true rfl rfl rfl (List.Mem.head _) (op_bin _ _ _ _ _ rfl rfl rfl),
                      st_plain rfl (op_pick _ _ true _ rfl rfl),
                      st_plain rfl (op_move _ _ _ _ (congrArg (fun b => AV.v (Value.bool b)) hg8_14) rfl),
                      st_run 14 47 true rfl rfl rfl (List.Mem.head _) (op_move _ _ _ _ rfl rfl),
                      st_run 14 47 true rfl rfl rfl (List.Mem.head _) (op_move _ _ _ _ rfl rfl),
                      st_run 14 47 true rfl rfl rfl (List.Mem.head _) (op_call _ _ 17 _ _ rfl Try.call17 rfl (ok_wherrykeep_Bytes v5 v2.1 _ hv8) rfl rfl),
                      st_run 14 47 true rfl rfl rfl (List.Mem.head _) (op_un _ _ _ _ rfl rfl),
                      st_plain rfl (op_pick _ _ true _ rfl rfl),
                      st_plain rfl (op_move _ _ _ _ (congrArg (fun b => AV.v (Value.bool b)) hg8_20) rfl),
                      st_run 20 53 true rfl rfl rfl (List.Mem.head _) (LOp.drop [_] (LOp.drop [_] (op_move_take _ _ _ _ rfl))),
                      st_run 20 53 true rfl rfl rfl (List.Mem.head _) (op_move _ _ _ _ rfl rfl),
                      st_run 20 53 true rfl rfl rfl (List.Mem.head _) (op_move _ _ _ _ rfl rfl),
                      st_run 20 53 true rfl rfl rfl (List.Mem.head _) (op_call _ _ 20 _ _ rfl Try.call20 rfl (ok_frame_Spoil v5 at_ p_bits _ hv9) rfl rfl),
                      st_run 20 53 true rfl rfl rfl (List.Mem.head _) (LOp.drop [_] (LOp.drop [_] (op_move_take _ _ _ _ rfl))),
                      st_run 20 53 true rfl rfl rfl (List.Mem.head _) (op_call _ _ 17 _ _ rfl Try.call17 rfl (ok_wherrykeep_Bytes v9 v2.1 _ hv10) rfl rfl),
                      st_plain rfl (op_pick _ _ true _ rfl rfl),
                      st_plain rfl (op_move _ _ _ _ (congrArg (fun b => AV.v (Value.bool b)) hg8_28) rfl),
                      st_run 28 61 true rfl rfl rfl (List.Mem.head _) (op_call _ _ 23 _ _ rfl Try.call23 rfl (ok_wherrylaw20_wakes  _ hv11) rfl rfl),
                      st_plain rfl (op_pick _ _ true _ rfl rfl),
                      st_plain rfl (op_assign _ _ _ _ rfl rfl),
                      trivial⟩ ?_
                  exact hl14 _ (Option.some.inj h).symm
                · refine ht_seqR hn (El := (_ :: _ :: _ :: _ :: _ :: _ :: (33, .v (.int .i64 v6.2)) :: (34, .v (.bool (v6.2 == 6))) :: (35, .v (.bool true)) :: (36, .agg [.v (.int .i64 v6.1.Kind), .v (.int .i64 v6.1.Number), .v (.int .i64 v6.1.Offset), .v (.int .i64 v6.1.Seq), .fl (.own 5) 1 (List.map (Value.int .u8) v6.1.Data)]) :: (37, .agg [.v (.int .i64 0), .v (.int .i64 0), .v (.int .i64 0), .v (.int .i64 0), .v (.slice none 0 0)]) :: (38, .v (.bool v7)) :: (39, .v (.bool v7)) :: (40, .v (.bool true)) :: (41, .same (.slot 9)) :: (42, .v (.int .i64 (v5.length : Int))) :: (43, .same (.slot 7)) :: (44, .v (.int .i64 (v2.1.length : Int))) :: (45, .v (.bool (((v5.length : Int) == (v2.1.length : Int))))) :: (46, .v (.bool (((v5.length : Int) == (v2.1.length : Int))))) :: (47, .v (.bool true)) :: (48, .same (.slot 9)) :: (49, .same (.slot 7)) :: (50, .v (.bool v8)) :: (51, .v (.bool (!v8))) :: (52, .v (.bool (!v8))) :: (53, .v (.bool true)) :: (54, .fl (.own 5) 1 (List.map (Value.int .u8) v5)) :: (55, .v (.int .i64 at_)) :: (56, .v (.int .i64 p_bits)) :: (57, .fl (.own 5) 1 (List.map (Value.int .u8) v9)) :: (58, .fl (.own 5) 1 (List.map (Value.int .u8) v2.1)) :: (59, .v (.bool v10)) :: (60, .v (.bool v10)) :: (61, .v (.bool false)) :: (62, .v undef) :: (63, .v (.bool false)) :: (6, .v (.bool false)) :: [])) (init := [0, 1, 2, 3, 4, 5]) (fin := [37]) (sps := (⟨[5], [], [6], [(.slot 33)]⟩ :: ⟨[6], [], [7], [(.slot 34)]⟩ :: ⟨[7], [], [8], [(.slot 35)]⟩ :: ⟨[8], [4], [9], [(.slot 36)]⟩ :: ⟨[8], [], [10], [(.slot 37)]⟩ :: ⟨[8, 9, 10], [], [11], [(.slot 38)]⟩ :: ⟨[8, 11], [], [12], [(.slot 39)]⟩ :: ⟨[12], [], [13], [(.slot 40)]⟩ :: ⟨[13, 3], [], [14], [(.slot 41)]⟩ :: ⟨[13, 14, 3], [], [15], [(.slot 42)]⟩ :: ⟨[13, 2], [], [16], [(.slot 43)]⟩ :: ⟨[13, 16, 2], [], [17], [(.slot 44)]⟩ :: ⟨[13, 15, 17], [], [18], [(.slot 45)]⟩ :: ⟨[13, 18], [], [19], [(.slot 46)]⟩ :: ⟨[19], [], [20], [(.slot 47)]⟩ :: ⟨[20, 3], [], [21], [(.slot 48)]⟩ :: ⟨[20, 2], [], [22], [(.slot 49)]⟩ :: ⟨[20, 21, 3, 22, 2], [], [23], [(.slot 50)]⟩ :: ⟨[20, 23], [], [24], [(.slot 51)]⟩ :: ⟨[20, 24], [], [25], [(.slot 52)]⟩ :: ⟨[25], [], [26], [(.slot 53)]⟩ :: ⟨[26], [14, 21, 3], [27], [(.slot 54)]⟩ :: ⟨[26, 0], [], [28], [(.slot 55)]⟩ :: ⟨[26, 1], [], [29], [(.slot 56)]⟩ :: ⟨[26, 27, 28, 29], [], [30], [(.slot 57)]⟩ :: ⟨[26], [16, 22, 2], [31], [(.slot 58)]⟩ :: ⟨[26, 30, 31], [], [32], [(.slot 59)]⟩ :: ⟨[26, 32], [], [33], [(.slot 60)]⟩ :: ⟨[33], [], [34], [(.slot 61)]⟩ :: ⟨[34], [], [35], [(.slot 62)]⟩ :: ⟨[34], [], [36], [(.slot 63)]⟩ :: ⟨[36], [], [37], [(.slot 6)]⟩ :: [])) (es' := [(6, .v (.bool false))]) (by kernel_rfl) rfl rfl
                    ⟨st_plain rfl (op_move _ _ _ _ rfl rfl),
                      st_plain rfl (op_bin _ _ _ _ _ rfl rfl rfl),
                      st_plain rfl (op_move _ _ _ _ (congrArg (fun b => AV.v (Value.bool b)) hg8_2) rfl),
                      st_run 2 35 true rfl rfl rfl (List.Mem.head _) (op_loadA_take _ _ _ _ Try.underlying24 rfl sz24 rfl rfl),
                      st_run 2 35 true rfl rfl rfl (List.Mem.head _) (op_build _ _ _ _ [1, 1, 1, 1, 1] _ _ Try.underlying24 zr24 (fs24 _ Try.underlying24) Src.nil rfl rfl rfl),
                      st_run 2 35 true rfl rfl rfl (List.Mem.head _) (op_call _ _ 19 _ _ rfl Try.call19 rfl ((ok_wherrykeep_Frame v6.1 (T_Frame.mk 0 0 0 0 []) _ hv7).args (subs_cons (sub_refl _) (subs_cons (sub_agg (subs_cons (sub_refl _) (subs_cons (sub_refl _) (subs_cons (sub_refl _) (subs_cons (sub_refl _) (subs_cons (sub_nil_shr 1) (subs_nil))))))) (subs_nil)))) rfl rfl),
                      st_plain rfl (op_pick _ _ true _ rfl rfl),
                      st_plain rfl (op_move _ _ _ _ (congrArg (fun b => AV.v (Value.bool b)) hg8_7) rfl),
                      st_run 7 40 true rfl rfl rfl (List.Mem.head _) (op_move _ _ _ _ rfl rfl),
                      st_run 7 40 true rfl rfl rfl (List.Mem.head _) (op_len_fl _ _ _ Try.underlying22 rfl (by decide) (map_len _)),
                      st_run 7 40 true rfl rfl rfl (List.Mem.head _) (op_move _ _ _ _ rfl rfl),
                      st_run 7 40 true rfl rfl rfl (List.Mem.head _) (op_len_fl _ _ _ Try.underlying22 rfl (by decide) (map_len _)),
                      st_run 7 40 true rfl rfl rfl (List.Mem.head _) (op_bin _ _ _ _ _ rfl rfl rfl),
                      st_plain rfl (op_pick _ _ true _ rfl rfl),
                      st_plain rfl (op_move _ _ _ _ (congrArg (fun b => AV.v (Value.bool b)) hg8_14) rfl),
                      st_run 14 47 true rfl rfl rfl (List.Mem.head _) (op_move _ _ _ _ rfl rfl),
                      st_run 14 47 true rfl rfl rfl (List.Mem.head _) (op_move _ _ _ _ rfl rfl),
                      st_run 14 47 true rfl rfl rfl (List.Mem.head _) (op_call _ _ 17 _ _ rfl Try.call17 rfl (ok_wherrykeep_Bytes v5 v2.1 _ hv8) rfl rfl),
                      st_run 14 47 true rfl rfl rfl (List.Mem.head _) (op_un _ _ _ _ rfl rfl),
                      st_plain rfl (op_pick _ _ true _ rfl rfl),
                      st_plain rfl (op_move _ _ _ _ (congrArg (fun b => AV.v (Value.bool b)) hg8_20) rfl),
                      st_run 20 53 true rfl rfl rfl (List.Mem.head _) (LOp.drop [_] (LOp.drop [_] (op_move_take _ _ _ _ rfl))),
                      st_run 20 53 true rfl rfl rfl (List.Mem.head _) (op_move _ _ _ _ rfl rfl),
                      st_run 20 53 true rfl rfl rfl (List.Mem.head _) (op_move _ _ _ _ rfl rfl),
                      st_run 20 53 true rfl rfl rfl (List.Mem.head _) (op_call _ _ 20 _ _ rfl Try.call20 rfl (ok_frame_Spoil v5 at_ p_bits _ hv9) rfl rfl),
                      st_run 20 53 true rfl rfl rfl (List.Mem.head _) (LOp.drop [_] (LOp.drop [_] (op_move_take _ _ _ _ rfl))),
                      st_run 20 53 true rfl rfl rfl (List.Mem.head _) (op_call _ _ 17 _ _ rfl Try.call17 rfl (ok_wherrykeep_Bytes v9 v2.1 _ hv10) rfl rfl),
                      st_plain rfl (op_pick _ _ true _ rfl rfl),
                      st_plain rfl (op_move _ _ _ _ (congrArg (fun b => AV.v (Value.bool b)) hg8_28) rfl),
                      st_skip 28 61 _ true rfl rfl rfl rfl (List.Mem.head _),
                      st_plain rfl (op_pick _ _ false _ rfl rfl),
                      st_plain rfl (op_assign _ _ _ _ rfl rfl),
                      trivial⟩ ?_
                  exact hl14 _ (Option.some.inj h).symm
              · refine ht_seqR hn (El := (_ :: _ :: _ :: _ :: _ :: _ :: (33, .v (.int .i64 v6.2)) :: (34, .v (.bool (v6.2 == 6))) :: (35, .v (.bool true)) :: (36, .agg [.v (.int .i64 v6.1.Kind), .v (.int .i64 v6.1.Number), .v (.int .i64 v6.1.Offset), .v (.int .i64 v6.1.Seq), .fl (.own 5) 1 (List.map (Value.int .u8) v6.1.Data)]) :: (37, .agg [.v (.int .i64 0), .v (.int .i64 0), .v (.int .i64 0), .v (.int .i64 0), .v (.slice none 0 0)]) :: (38, .v (.bool v7)) :: (39, .v (.bool v7)) :: (40, .v (.bool true)) :: (41, .same (.slot 9)) :: (42, .v (.int .i64 (v5.length : Int))) :: (43, .same (.slot 7)) :: (44, .v (.int .i64 (v2.1.length : Int))) :: (45, .v (.bool (((v5.length : Int) == (v2.1.length : Int))))) :: (46, .v (.bool (((v5.length : Int) == (v2.1.length : Int))))) :: (47, .v (.bool true)) :: (48, .same (.slot 9)) :: (49, .same (.slot 7)) :: (50, .v (.bool v8)) :: (51, .v (.bool (!v8))) :: (52, .v (.bool (!v8))) :: (53, .v (.bool false)) :: (54, .v undef) :: (55, .v undef) :: (56, .v undef) :: (57, .v undef) :: (58, .v undef) :: (59, .v undef) :: (60, .v (.bool false)) :: (61, .v (.bool false)) :: (62, .v undef) :: (63, .v (.bool false)) :: (6, .v (.bool false)) :: [])) (init := [0, 1, 2, 3, 4, 5]) (fin := [37]) (sps := (⟨[5], [], [6], [(.slot 33)]⟩ :: ⟨[6], [], [7], [(.slot 34)]⟩ :: ⟨[7], [], [8], [(.slot 35)]⟩ :: ⟨[8], [4], [9], [(.slot 36)]⟩ :: ⟨[8], [], [10], [(.slot 37)]⟩ :: ⟨[8, 9, 10], [], [11], [(.slot 38)]⟩ :: ⟨[8, 11], [], [12], [(.slot 39)]⟩ :: ⟨[12], [], [13], [(.slot 40)]⟩ :: ⟨[13, 3], [], [14], [(.slot 41)]⟩ :: ⟨[13, 14, 3], [], [15], [(.slot 42)]⟩ :: ⟨[13, 2], [], [16], [(.slot 43)]⟩ :: ⟨[13, 16, 2], [], [17], [(.slot 44)]⟩ :: ⟨[13, 15, 17], [], [18], [(.slot 45)]⟩ :: ⟨[13, 18], [], [19], [(.slot 46)]⟩ :: ⟨[19], [], [20], [(.slot 47)]⟩ :: ⟨[20, 3], [], [21], [(.slot 48)]⟩ :: ⟨[20, 2], [], [22], [(.slot 49)]⟩ :: ⟨[20, 21, 3, 22, 2], [], [23], [(.slot 50)]⟩ :: ⟨[20, 23], [], [24], [(.slot 51)]⟩ :: ⟨[20, 24], [], [25], [(.slot 52)]⟩ :: ⟨[25], [], [26], [(.slot 53)]⟩ :: ⟨[26], [], [27], [(.slot 54)]⟩ :: ⟨[26], [], [28], [(.slot 55)]⟩ :: ⟨[26], [], [29], [(.slot 56)]⟩ :: ⟨[26], [], [30], [(.slot 57)]⟩ :: ⟨[26], [], [31], [(.slot 58)]⟩ :: ⟨[26], [], [32], [(.slot 59)]⟩ :: ⟨[26], [], [33], [(.slot 60)]⟩ :: ⟨[33], [], [34], [(.slot 61)]⟩ :: ⟨[34], [], [35], [(.slot 62)]⟩ :: ⟨[34], [], [36], [(.slot 63)]⟩ :: ⟨[36], [], [37], [(.slot 6)]⟩ :: [])) (es' := [(6, .v (.bool false))]) (by kernel_rfl) rfl rfl
                  ⟨st_plain rfl (op_move _ _ _ _ rfl rfl),
                    st_plain rfl (op_bin _ _ _ _ _ rfl rfl rfl),
                    st_plain rfl (op_move _ _ _ _ (congrArg (fun b => AV.v (Value.bool b)) hg8_2) rfl),
                    st_run 2 35 true rfl rfl rfl (List.Mem.head _) (op_loadA_take _ _ _ _ Try.underlying24 rfl sz24 rfl rfl),
                    st_run 2 35 true rfl rfl rfl (List.Mem.head _) (op_build _ _ _ _ [1, 1, 1, 1, 1] _ _ Try.underlying24 zr24 (fs24 _ Try.underlying24) Src.nil rfl rfl rfl),
                    st_run 2 35 true rfl rfl rfl (List.Mem.head _) (op_call _ _ 19 _ _ rfl Try.call19 rfl ((ok_wherrykeep_Frame v6.1 (T_Frame.mk 0 0 0 0 []) _ hv7).args (subs_cons (sub_refl _) (subs_cons (sub_agg (subs_cons (sub_refl _) (subs_cons (sub_refl _) (subs_cons (sub_refl _) (subs_cons (sub_refl _) (subs_cons (sub_nil_shr 1) (subs_nil))))))) (subs_nil)))) rfl rfl),
                    st_plain rfl (op_pick _ _ true _ rfl rfl),
                    st_plain rfl (op_move _ _ _ _ (congrArg (fun b => AV.v (Value.bool b)) hg8_7) rfl),
                    st_run 7 40 true rfl rfl rfl (List.Mem.head _) (op_move _ _ _ _ rfl rfl),
                    st_run 7 40 true rfl rfl rfl (List.Mem.head _) (op_len_fl _ _ _ Try.underlying22 rfl (by decide) (map_len _)),
                    st_run 7 40 true rfl rfl rfl (List.Mem.head _) (op_move _ _ _ _ rfl rfl),
                    st_run 7 40 true rfl rfl rfl (List.Mem.head _) (op_len_fl _ _ _ Try.underlying22 rfl (by decide) (map_len _)),
                    st_run 7 40 true rfl rfl rfl (List.Mem.head _) (op_bin _ _ _ _ _ rfl rfl rfl),
                    st_plain rfl (op_pick _ _ true _ rfl rfl),
                    st_plain rfl (op_move _ _ _ _ (congrArg (fun b => AV.v (Value.bool b)) hg8_14) rfl),
                    st_run 14 47 true rfl rfl rfl (List.Mem.head _) (op_move _ _ _ _ rfl rfl),
                    st_run 14 47 true rfl rfl rfl (List.Mem.head _) (op_move _ _ _ _ rfl rfl),
                    st_run 14 47 true rfl rfl rfl (List.Mem.head _) (op_call _ _ 17 _ _ rfl Try.call17 rfl (ok_wherrykeep_Bytes v5 v2.1 _ hv8) rfl rfl),
                    st_run 14 47 true rfl rfl rfl (List.Mem.head _) (op_un _ _ _ _ rfl rfl),
                    st_plain rfl (op_pick _ _ true _ rfl rfl),
                    st_plain rfl (op_move _ _ _ _ (congrArg (fun b => AV.v (Value.bool b)) hg8_20) rfl),
                    st_skip 20 53 _ true rfl rfl rfl rfl (List.Mem.head _),
                    st_skip 20 53 _ true rfl rfl rfl rfl (List.Mem.head _),
                    st_skip 20 53 _ true rfl rfl rfl rfl (List.Mem.head _),
                    st_skip 20 53 _ true rfl rfl rfl rfl (List.Mem.head _),
                    st_skip 20 53 _ true rfl rfl rfl rfl (List.Mem.head _),
                    st_skip 20 53 _ true rfl rfl rfl rfl (List.Mem.head _),
                    st_plain rfl (op_pick _ _ false _ rfl rfl),
                    st_plain rfl (op_move _ _ _ _ rfl rfl),
                    st_skip 28 61 _ true rfl rfl rfl rfl (List.Mem.head _),
                    st_plain rfl (op_pick _ _ false _ rfl rfl),
                    st_plain rfl (op_assign _ _ _ _ rfl rfl),
                    trivial⟩ ?_
                exact hl14 _ (Option.some.inj h).symm
            · refine ht_seqR hn (El := (_ :: _ :: _ :: _ :: _ :: _ :: (33, .v (.int .i64 v6.2)) :: (34, .v (.bool (v6.2 == 6))) :: (35, .v (.bool true)) :: (36, .agg [.v (.int .i64 v6.1.Kind), .v (.int .i64 v6.1.Number), .v (.int .i64 v6.1.Offset), .v (.int .i64 v6.1.Seq), .fl (.own 5) 1 (List.map (Value.int .u8) v6.1.Data)]) :: (37, .agg [.v (.int .i64 0), .v (.int .i64 0), .v (.int .i64 0), .v (.int .i64 0), .v (.slice none 0 0)]) :: (38, .v (.bool v7)) :: (39, .v (.bool v7)) :: (40, .v (.bool true)) :: (41, .same (.slot 9)) :: (42, .v (.int .i64 (v5.length : Int))) :: (43, .same (.slot 7)) :: (44, .v (.int .i64 (v2.1.length : Int))) :: (45, .v (.bool (((v5.length : Int) == (v2.1.length : Int))))) :: (46, .v (.bool (((v5.length : Int) == (v2.1.length : Int))))) :: (47, .v (.bool false)) :: (48, .v undef) :: (49, .v undef) :: (50, .v undef) :: (51, .v undef) :: (52, .v (.bool false)) :: (53, .v (.bool false)) :: (54, .v undef) :: (55, .v undef) :: (56, .v undef) :: (57, .v undef) :: (58, .v undef) :: (59, .v undef) :: (60, .v (.bool false)) :: (61, .v (.bool false)) :: (62, .v undef) :: (63, .v (.bool false)) :: (6, .v (.bool false)) :: [])) (init := [0, 1, 2, 3, 4, 5]) (fin := [37]) (sps := (⟨[5], [], [6], [(.slot 33)]⟩ :: ⟨[6], [], [7], [(.slot 34)]⟩ :: ⟨[7], [], [8], [(.slot 35)]⟩ :: ⟨[8], [4], [9], [(.slot 36)]⟩ :: ⟨[8], [], [10], [(.slot 37)]⟩ :: ⟨[8, 9, 10], [], [11], [(.slot 38)]⟩ :: ⟨[8, 11], [], [12], [(.slot 39)]⟩ :: ⟨[12], [], [13], [(.slot 40)]⟩ :: ⟨[13, 3], [], [14], [(.slot 41)]⟩ :: ⟨[13, 14, 3], [], [15], [(.slot 42)]⟩ :: ⟨[13, 2], [], [16], [(.slot 43)]⟩ :: ⟨[13, 16, 2], [], [17], [(.slot 44)]⟩ :: ⟨[13, 15, 17], [], [18], [(.slot 45)]⟩ :: ⟨[13, 18], [], [19], [(.slot 46)]⟩ :: ⟨[19], [], [20], [(.slot 47)]⟩ :: ⟨[20], [], [21], [(.slot 48)]⟩ :: ⟨[20], [], [22], [(.slot 49)]⟩ :: ⟨[20], [], [23], [(.slot 50)]⟩ :: ⟨[20], [], [24], [(.slot 51)]⟩ :: ⟨[20], [], [25], [(.slot 52)]⟩ :: ⟨[25], [], [26], [(.slot 53)]⟩ :: ⟨[26], [], [27], [(.slot 54)]⟩ :: ⟨[26], [], [28], [(.slot 55)]⟩ :: ⟨[26], [], [29], [(.slot 56)]⟩ :: ⟨[26], [], [30], [(.slot 57)]⟩ :: ⟨[26], [], [31], [(.slot 58)]⟩ :: ⟨[26], [], [32], [(.slot 59)]⟩ :: ⟨[26], [], [33], [(.slot 60)]⟩ :: ⟨[33], [], [34], [(.slot 61)]⟩ :: ⟨[34], [], [35], [(.slot 62)]⟩ :: ⟨[34], [], [36], [(.slot 63)]⟩ :: ⟨[36], [], [37], [(.slot 6)]⟩ :: [])) (es' := [(6, .v (.bool false))]) (by kernel_rfl) rfl rfl
                ⟨st_plain rfl (op_move _ _ _ _ rfl rfl),
                  st_plain rfl (op_bin _ _ _ _ _ rfl rfl rfl),
                  st_plain rfl (op_move _ _ _ _ (congrArg (fun b => AV.v (Value.bool b)) hg8_2) rfl),
                  st_run 2 35 true rfl rfl rfl (List.Mem.head _) (op_loadA_take _ _ _ _ Try.underlying24 rfl sz24 rfl rfl),
                  st_run 2 35 true rfl rfl rfl (List.Mem.head _) (op_build _ _ _ _ [1, 1, 1, 1, 1] _ _ Try.underlying24 zr24 (fs24 _ Try.underlying24) Src.nil rfl rfl rfl),
                  st_run 2 35 true rfl rfl rfl (List.Mem.head _) (op_call _ _ 19 _ _ rfl Try.call19 rfl ((ok_wherrykeep_Frame v6.1 (T_Frame.mk 0 0 0 0 []) _ hv7).args (subs_cons (sub_refl _) (subs_cons (sub_agg (subs_cons (sub_refl _) (subs_cons (sub_refl _) (subs_cons (sub_refl _) (subs_cons (sub_refl _) (subs_cons (sub_nil_shr 1) (subs_nil))))))) (subs_nil)))) rfl rfl),
                  st_plain rfl (op_pick _ _ true _ rfl rfl),
                  st_plain rfl (op_move _ _ _ _ (congrArg (fun b => AV.v (Value.bool b)) hg8_7) rfl),
                  st_run 7 40 true rfl rfl rfl (List.Mem.head _) (op_move _ _ _ _ rfl rfl),
                  st_run 7 40 true rfl rfl rfl (List.Mem.head _) (op_len_fl _ _ _ Try.underlying22 rfl (by decide) (map_len _)),
                  st_run 7 40 true rfl rfl rfl (List.Mem.head _) (op_move _ _ _ _ rfl rfl),
                  st_run 7 40 true rfl rfl rfl (List.Mem.head _) (op_len_fl _ _ _ Try.underlying22 rfl (by decide) (map_len _)),
                  st_run 7 40 true rfl rfl rfl (List.Mem.head _) (op_bin _ _ _ _ _ rfl rfl rfl),
                  st_plain rfl (op_pick _ _ true _ rfl rfl),
                  st_plain rfl (op_move _ _ _ _ (congrArg (fun b => AV.v (Value.bool b)) hg8_14) rfl),
                  st_skip 14 47 _ true rfl rfl rfl rfl (List.Mem.head _),
                  st_skip 14 47 _ true rfl rfl rfl rfl (List.Mem.head _),
                  st_skip 14 47 _ true rfl rfl rfl rfl (List.Mem.head _),
                  st_skip 14 47 _ true rfl rfl rfl rfl (List.Mem.head _),
                  st_plain rfl (op_pick _ _ false _ rfl rfl),
                  st_plain rfl (op_move _ _ _ _ rfl rfl),
                  st_skip 20 53 _ true rfl rfl rfl rfl (List.Mem.head _),
                  st_skip 20 53 _ true rfl rfl rfl rfl (List.Mem.head _),
                  st_skip 20 53 _ true rfl rfl rfl rfl (List.Mem.head _),
                  st_skip 20 53 _ true rfl rfl rfl rfl (List.Mem.head _),
                  st_skip 20 53 _ true rfl rfl rfl rfl (List.Mem.head _),
                  st_skip 20 53 _ true rfl rfl rfl rfl (List.Mem.head _),
                  st_plain rfl (op_pick _ _ false _ rfl rfl),
                  st_plain rfl (op_move _ _ _ _ rfl rfl),
                  st_skip 28 61 _ true rfl rfl rfl rfl (List.Mem.head _),
                  st_plain rfl (op_pick _ _ false _ rfl rfl),
                  st_plain rfl (op_assign _ _ _ _ rfl rfl),
                  trivial⟩ ?_
              exact hl14 _ (Option.some.inj h).symm
          · refine ht_seqR hn (El := (_ :: _ :: _ :: _ :: _ :: _ :: (33, .v (.int .i64 v6.2)) :: (34, .v (.bool (v6.2 == 6))) :: (35, .v (.bool true)) :: (36, .agg [.v (.int .i64 v6.1.Kind), .v (.int .i64 v6.1.Number), .v (.int .i64 v6.1.Offset), .v (.int .i64 v6.1.Seq), .fl (.own 5) 1 (List.map (Value.int .u8) v6.1.Data)]) :: (37, .agg [.v (.int .i64 0), .v (.int .i64 0), .v (.int .i64 0), .v (.int .i64 0), .v (.slice none 0 0)]) :: (38, .v (.bool v7)) :: (39, .v (.bool v7)) :: (40, .v (.bool false)) :: (41, .v undef) :: (42, .v undef) :: (43, .v undef) :: (44, .v undef) :: (45, .v undef) :: (46, .v (.bool false)) :: (47, .v (.bool false)) :: (48, .v undef) :: (49, .v undef) :: (50, .v undef) :: (51, .v undef) :: (52, .v (.bool false)) :: (53, .v (.bool false)) :: (54, .v undef) :: (55, .v undef) :: (56, .v undef) :: (57, .v undef) :: (58, .v undef) :: (59, .v undef) :: (60, .v (.bool false)) :: (61, .v (.bool false)) :: (62, .v undef) :: (63, .v (.bool false)) :: (6, .v (.bool false)) :: [])) (init := [0, 1, 2, 3, 4, 5]) (fin := [37]) (sps := (⟨[5], [], [6], [(.slot 33)]⟩ :: ⟨[6], [], [7], [(.slot 34)]⟩ :: ⟨[7], [], [8], [(.slot 35)]⟩ :: ⟨[8], [4], [9], [(.slot 36)]⟩ :: ⟨[8], [], [10], [(.slot 37)]⟩ :: ⟨[8, 9, 10], [], [11], [(.slot 38)]⟩ :: ⟨[8, 11], [], [12], [(.slot 39)]⟩ :: ⟨[12], [], [13], [(.slot 40)]⟩ :: ⟨[13], [], [14], [(.slot 41)]⟩ :: ⟨[13], [], [15], [(.slot 42)]⟩ :: ⟨[13], [], [16], [(.slot 43)]⟩ :: ⟨[13], [], [17], [(.slot 44)]⟩ :: ⟨[13], [], [18], [(.slot 45)]⟩ :: ⟨[13], [], [19], [(.slot 46)]⟩ :: ⟨[19], [], [20], [(.slot 47)]⟩ :: ⟨[20], [], [21], [(.slot 48)]⟩ :: ⟨[20], [], [22], [(.slot 49)]⟩ :: ⟨[20], [], [23], [(.slot 50)]⟩ :: ⟨[20], [], [24], [(.slot 51)]⟩ :: ⟨[20], [], [25], [(.slot 52)]⟩ :: ⟨[25], [], [26], [(.slot 53)]⟩ :: ⟨[26], [], [27], [(.slot 54)]⟩ :: ⟨[26], [], [28], [(.slot 55)]⟩ :: ⟨[26], [], [29], [(.slot 56)]⟩ :: ⟨[26], [], [30], [(.slot 57)]⟩ :: ⟨[26], [], [31], [(.slot 58)]⟩ :: ⟨[26], [], [32], [(.slot 59)]⟩ :: ⟨[26], [], [33], [(.slot 60)]⟩ :: ⟨[33], [], [34], [(.slot 61)]⟩ :: ⟨[34], [], [35], [(.slot 62)]⟩ :: ⟨[34], [], [36], [(.slot 63)]⟩ :: ⟨[36], [], [37], [(.slot 6)]⟩ :: [])) (es' := [(6, .v (.bool false))]) (by kernel_rfl) rfl rfl
              ⟨st_plain rfl (op_move _ _ _ _ rfl rfl),
                st_plain rfl (op_bin _ _ _ _ _ rfl rfl rfl),
                st_plain rfl (op_move _ _ _ _ (congrArg (fun b => AV.v (Value.bool b)) hg8_2) rfl),
                st_run 2 35 true rfl rfl rfl (List.Mem.head _) (op_loadA_take _ _ _ _ Try.underlying24 rfl sz24 rfl rfl),
                st_run 2 35 true rfl rfl rfl (List.Mem.head _) (op_build _ _ _ _ [1, 1, 1, 1, 1] _ _ Try.underlying24 zr24 (fs24 _ Try.underlying24) Src.nil rfl rfl rfl),
                st_run 2 35 true rfl rfl rfl (List.Mem.head _) (op_call _ _ 19 _ _ rfl Try.call19 rfl ((ok_wherrykeep_Frame v6.1 (T_Frame.mk 0 0 0 0 []) _ hv7).args (subs_cons (sub_refl _) (subs_cons (sub_agg (subs_cons (sub_refl _) (subs_cons (sub_refl _) (subs_cons (sub_refl _) (subs_cons (sub_refl _) (subs_cons (sub_nil_shr 1) (subs_nil))))))) (subs_nil)))) rfl rfl),
                st_plain rfl (op_pick _ _ true _ rfl rfl),
                st_plain rfl (op_move _ _ _ _ (congrArg (fun b => AV.v (Value.bool b)) hg8_7) rfl),
                st_skip 7 40 _ true rfl rfl rfl rfl (List.Mem.head _),
                st_skip 7 40 _ true rfl rfl rfl rfl (List.Mem.head _),
                st_skip 7 40 _ true rfl rfl rfl rfl (List.Mem.head _),
                st_skip 7 40 _ true rfl rfl rfl rfl (List.Mem.head _),
                st_skip 7 40 _ true rfl rfl rfl rfl (List.Mem.head _),
                st_plain rfl (op_pick _ _ false _ rfl rfl),
                st_plain rfl (op_move _ _ _ _ rfl rfl),
                st_skip 14 47 _ true rfl rfl rfl rfl (List.Mem.head _),
                st_skip 14 47 _ true rfl rfl rfl rfl (List.Mem.head _),
                st_skip 14 47 _ true rfl rfl rfl rfl (List.Mem.head _),
                st_skip 14 47 _ true rfl rfl rfl rfl (List.Mem.head _),
                st_plain rfl (op_pick _ _ false _ rfl rfl),
                st_plain rfl (op_move _ _ _ _ rfl rfl),
                st_skip 20 53 _ true rfl rfl rfl rfl (List.Mem.head _),
                st_skip 20 53 _ true rfl rfl rfl rfl (List.Mem.head _),
                st_skip 20 53 _ true rfl rfl rfl rfl (List.Mem.head _),
                st_skip 20 53 _ true rfl rfl rfl rfl (List.Mem.head _),
                st_skip 20 53 _ true rfl rfl rfl rfl (List.Mem.head _),
                st_skip 20 53 _ true rfl rfl rfl rfl (List.Mem.head _),
                st_plain rfl (op_pick _ _ false _ rfl rfl),
                st_plain rfl (op_move _ _ _ _ rfl rfl),
                st_skip 28 61 _ true rfl rfl rfl rfl (List.Mem.head _),
                st_plain rfl (op_pick _ _ false _ rfl rfl),
                st_plain rfl (op_assign _ _ _ _ rfl rfl),
                trivial⟩ ?_
            exact hl14 _ (Option.some.inj h).symm
        · refine ht_seqR hn (El := (_ :: _ :: _ :: _ :: _ :: _ :: (33, .v (.int .i64 v6.2)) :: (34, .v (.bool (v6.2 == 6))) :: (35, .v (.bool false)) :: (36, .v undef) :: (37, .v undef) :: (38, .v undef) :: (39, .v (.bool false)) :: (40, .v (.bool false)) :: (41, .v undef) :: (42, .v undef) :: (43, .v undef) :: (44, .v undef) :: (45, .v undef) :: (46, .v (.bool false)) :: (47, .v (.bool false)) :: (48, .v undef) :: (49, .v undef) :: (50, .v undef) :: (51, .v undef) :: (52, .v (.bool false)) :: (53, .v (.bool false)) :: (54, .v undef) :: (55, .v undef) :: (56, .v undef) :: (57, .v undef) :: (58, .v undef) :: (59, .v undef) :: (60, .v (.bool false)) :: (61, .v (.bool false)) :: (62, .v undef) :: (63, .v (.bool false)) :: (6, .v (.bool false)) :: [])) (init := [0, 1, 2, 3, 4, 5]) (fin := [37]) (sps := (⟨[5], [], [6], [(.slot 33)]⟩ :: ⟨[6], [], [7], [(.slot 34)]⟩ :: ⟨[7], [], [8], [(.slot 35)]⟩ :: ⟨[8], [], [9], [(.slot 36)]⟩ :: ⟨[8], [], [10], [(.slot 37)]⟩ :: ⟨[8], [], [11], [(.slot 38)]⟩ :: ⟨[8], [], [12], [(.slot 39)]⟩ :: ⟨[12], [], [13], [(.slot 40)]⟩ :: ⟨[13], [], [14], [(.slot 41)]⟩ :: ⟨[13], [], [15], [(.slot 42)]⟩ :: ⟨[13], [], [16], [(.slot 43)]⟩ :: ⟨[13], [], [17], [(.slot 44)]⟩ :: ⟨[13], [], [18], [(.slot 45)]⟩ :: ⟨[13], [], [19], [(.slot 46)]⟩ :: ⟨[19], [], [20], [(.slot 47)]⟩ :: ⟨[20], [], [21], [(.slot 48)]⟩ :: ⟨[20], [], [22], [(.slot 49)]⟩ :: ⟨[20], [], [23], [(.slot 50)]⟩ :: ⟨[20], [], [24], [(.slot 51)]⟩ :: ⟨[20], [], [25], [(.slot 52)]⟩ :: ⟨[25], [], [26], [(.slot 53)]⟩ :: ⟨[26], [], [27], [(.slot 54)]⟩ :: ⟨[26], [], [28], [(.slot 55)]⟩ :: ⟨[26], [], [29], [(.slot 56)]⟩ :: ⟨[26], [], [30], [(.slot 57)]⟩ :: ⟨[26], [], [31], [(.slot 58)]⟩ :: ⟨[26], [], [32], [(.slot 59)]⟩ :: ⟨[26], [], [33], [(.slot 60)]⟩ :: ⟨[33], [], [34], [(.slot 61)]⟩ :: ⟨[34], [], [35], [(.slot 62)]⟩ :: ⟨[34], [], [36], [(.slot 63)]⟩ :: ⟨[36], [], [37], [(.slot 6)]⟩ :: [])) (es' := [(6, .v (.bool false))]) (by kernel_rfl) rfl rfl
            ⟨st_plain rfl (op_move _ _ _ _ rfl rfl),
              st_plain rfl (op_bin _ _ _ _ _ rfl rfl rfl),
              st_plain rfl (op_move _ _ _ _ (congrArg (fun b => AV.v (Value.bool b)) hg8_2) rfl),
              st_skip 2 35 _ true rfl rfl rfl rfl (List.Mem.head _),
              st_skip 2 35 _ true rfl rfl rfl rfl (List.Mem.head _),
              st_skip 2 35 _ true rfl rfl rfl rfl (List.Mem.head _),
              st_plain rfl (op_pick _ _ false _ rfl rfl),
              st_plain rfl (op_move _ _ _ _ rfl rfl),
              st_skip 7 40 _ true rfl rfl rfl rfl (List.Mem.head _),
              st_skip 7 40 _ true rfl rfl rfl rfl (List.Mem.head _),
              st_skip 7 40 _ true rfl rfl rfl rfl (List.Mem.head _),
              st_skip 7 40 _ true rfl rfl rfl rfl (List.Mem.head _),
              st_skip 7 40 _ true rfl rfl rfl rfl (List.Mem.head _),
              st_plain rfl (op_pick _ _ false _ rfl rfl),
              st_plain rfl (op_move _ _ _ _ rfl rfl),
              st_skip 14 47 _ true rfl rfl rfl rfl (List.Mem.head _),
              st_skip 14 47 _ true rfl rfl rfl rfl (List.Mem.head _),
              st_skip 14 47 _ true rfl rfl rfl rfl (List.Mem.head _),
              st_skip 14 47 _ true rfl rfl rfl rfl (List.Mem.head _),
              st_plain rfl (op_pick _ _ false _ rfl rfl),
              st_plain rfl (op_move _ _ _ _ rfl rfl),
              st_skip 20 53 _ true rfl rfl rfl rfl (List.Mem.head _),
              st_skip 20 53 _ true rfl rfl rfl rfl (List.Mem.head _),
              st_skip 20 53 _ true rfl rfl rfl rfl (List.Mem.head _),
              st_skip 20 53 _ true rfl rfl rfl rfl (List.Mem.head _),
              st_skip 20 53 _ true rfl rfl rfl rfl (List.Mem.head _),
              st_skip 20 53 _ true rfl rfl rfl rfl (List.Mem.head _),
              st_plain rfl (op_pick _ _ false _ rfl rfl),
              st_plain rfl (op_move _ _ _ _ rfl rfl),
              st_skip 28 61 _ true rfl rfl rfl rfl (List.Mem.head _),
              st_plain rfl (op_pick _ _ false _ rfl rfl),
              st_plain rfl (op_assign _ _ _ _ rfl rfl),
              trivial⟩ ?_
          exact hl14 _ (Option.some.inj h).symm

set_option maxHeartbeats 1000000 in
theorem ok_wherrykeep_Twin (l : (List Int)) (r : (List Int)) (h : Sh.wherrykeep_Twin l = some r) : FnOK Try.prog 11 [.fl .shr 1 (List.map (Value.int .u8) l)] (.fl (.own 5) 1 (List.map (Value.int .u8) r)) := by
  unfold Sh.wherrykeep_Twin at h
  refine fn_ok Try.func11 rfl (Nat.le_of_ble_eq_true rfl) rfl rfl fun g0 hn hio => ?_
  refine ht_seq ?_
  refine ht_seqR hn (El := [_, (2, .v (.slice none 0 0))]) (init := [0]) (fin := [0]) (sps := [⟨[], [], [1], [(.slot 2)]⟩]) (es' := [(_, _)]) (by kernel_rfl) rfl rfl
    ⟨st_plain rfl (op_assign _ _ _ _ rfl rfl),
      trivial⟩ ?_
  refine pt_then ?_
  refine ht_seq ?_
  refine ht_seqR hn (El := [_, (3, .v (.slice none 0 0))]) (init := [0]) (fin := [0, 1]) (sps := [⟨[], [], [1], [(.slot 3)]⟩]) (es' := [(_, _), (3, .v (.slice none 0 0))]) (by kernel_rfl) rfl rfl
    ⟨st_plain rfl (op_assign _ _ _ _ rfl rfl),
      trivial⟩ ?_
  refine pt_then ?_
  refine ht_seq ?_
  obtain ⟨v1, hv1, h⟩ := bind_some h
  refine ht_seqR hn (El := [_, _, (4, .v (.slice none 0 0)), (5, .fl .shr 1 (List.map (Value.int .u8) l)), (6, .fl (.own 5) 1 (List.map (Value.int .u8) v1)), (2, .fl (.own 5) 1 (List.map (Value.int .u8) v1))]) (init := [0, 1]) (fin := [5]) (sps := [⟨[1], [], [2], [(.slot 4)]⟩, ⟨[0], [], [3], [(.slot 5)]⟩, ⟨[2, 3], [], [4], [(.slot 6)]⟩, ⟨[], [4], [5], [(.slot 2)]⟩]) (es' := [(2, .fl (.own 5) 1 (List.map (Value.int .u8) v1))]) (by kernel_rfl) rfl rfl
    ⟨st_plain rfl (op_move _ _ _ _ rfl rfl),
      st_plain rfl (op_move _ _ _ _ rfl rfl),
      st_plain rfl (op_app_nil _ _ _ _ el22 rfl rfl (map_len _) hv1 (congrArg (List.map _) (app_nil_eq hv1))),
      st_plain rfl (op_assign_take _ _ _ _ rfl),
      trivial⟩ ?_
  refine pt_then ?_
  refine ht_ret ?_
  obtain rfl := Option.some.inj h
  exact pt_ret hio rfl (.tmp _ _ .nil) rfl rfl

set_option maxHeartbeats 1000000 in
theorem ok_wherrylaw20_FrameCuts (f : T_Frame) (cut : Int) (more : Int) (r : Bool) (h : Sh.wherrylaw20_FrameCuts f cut more = some r) : FnOK Try.prog 6 [.agg [.v (.int .i64 f.Kind), .v (.int .i64 f.Number), .v (.int .i64 f.Offset), .v (.int .i64 f.Seq), .fl .shr 1 (List.map (Value.int .u8) f.Data)], .v (.int .i64 cut), .v (.int .u8 more)] (.v (.bool r)) := by
  unfold Sh.wherrylaw20_FrameCuts at h
  refine fn_ok Try.func6 rfl (Nat.le_of_ble_eq_true rfl) rfl rfl fun g0 hn hio => ?_
  refine ht_seq ?_
  refine ht_seqR hn (El := [_, _, _, (3, .box 24 [.v (.int .i64 f.Kind), .v (.int .i64 f.Number), .v (.int .i64 f.Offset), .v (.int .i64 f.Seq), .fl .shr 1 (List.map (Value.int .u8) f.Data)]), (6, .v (.bool false))]) (init := [0, 1, 2]) (fin := [1, 2, 3]) (sps := [⟨[0], [], [3], [(.slot 3)]⟩, ⟨[], [], [4], [(.slot 6)]⟩]) (es' := [(_, _), (_, _), (3, .box 24 [.v (.int .i64 f.Kind), .v (.int .i64 f.Number), .v (.int .i64 f.Offset), .v (.int .i64 f.Seq), .fl .shr 1 (List.map (Value.int .u8) f.Data)])]) (by kernel_rfl) rfl rfl
    ⟨st_plain rfl (op_box _ _ _ _ rfl rfl rfl),
      st_plain rfl (op_assign _ _ _ _ rfl rfl),
      trivial⟩ ?_
  refine pt_then ?_
  refine ht_seq ?_
  refine ht_seq ?_
  refine ht_seqR hn (El := [_, _, _, (13, .ptr 3 4), (14, .fl .shr 1 (List.map (Value.int .u8) f.Data)), (15, .v (.int .i64 (f.Data.length : Int))), (16, .v (.bool ((decide (300 < (f.Data.length : Int))))))]) (init := [0, 1, 2]) (fin := [0, 1, 2, 6]) (sps := [⟨[2], [], [3], [(.slot 13)]⟩, ⟨[3, 2], [], [4], [(.slot 14)]⟩, ⟨[4], [], [5], [(.slot 15)]⟩, ⟨[5], [], [6], [(.slot 16)]⟩]) (es' := [(_, _), (_, _), (_, _), (16, .v (.bool ((decide (300 < (f.Data.length : Int))))))]) (by kernel_rfl) rfl rfl
    ⟨st_plain rfl (op_fieldAddr _ _ _ _ 3 0 _ Try.underlying24 rfl sz22 rfl rfl (by decide)),
      st_plain rfl (op_load _ _ _ _ _ _ Try.underlying22 rfl rfl rfl (Nat.le_of_ble_eq_true rfl) rfl rfl rfl),
      st_plain rfl (op_len_fl _ _ _ Try.underlying22 rfl (by decide) (map_len _)),
      st_plain rfl (op_bin _ _ _ _ _ rfl rfl rfl),
      trivial⟩ ?_
  refine pt_then ?_
  refine ht_cond _ rfl (fun hb17 => ?_) (fun hb17 => ?_)
  · have h := cond_t hb17 h
    refine ht_seq ?_
    refine ht_seqR hn (El := [_, _, _, _, (6, .v (.bool true))]) (init := [0, 1, 2, 3]) (fin := [4]) (sps := [⟨[], [], [4], [(.slot 6)]⟩]) (es' := [(6, .v (.bool true))]) (by kernel_rfl) rfl rfl
      ⟨st_plain rfl (op_assign _ _ _ _ rfl rfl),
        trivial⟩ ?_
    refine pt_then ?_
    refine ht_ret ?_
    refine pt_r_then ?_
    obtain rfl := Option.some.inj h
    exact pt_ret hio rfl (.tmp _ _ .nil) rfl rfl
  · have h := cond_f hb17 h
    refine ht_skip ?_
    refine pt_then ?_
    refine ht_seq ?_
    obtain ⟨v2, hv2, h⟩ := bind_some h
    refine ht_seqR hn (El := [_, _, _, _, (18, .agg [.v (.int .i64 f.Kind), .v (.int .i64 f.Number), .v (.int .i64 f.Offset), .v (.int .i64 f.Seq), .fl .shr 1 (List.map (Value.int .u8) f.Data)]), (19, .tup [.fl (.own 5) 1 (List.map (Value.int .u8) v2.1), .v (.int .i64 v2.2)]), (17, .tup [.fl (.own 5) 1 (List.map (Value.int .u8) v2.1), .v (.int .i64 v2.2)]), (20, .fl (.own 5) 1 (List.map (Value.int .u8) v2.1)), (17, .tup [.any, .v (.int .i64 v2.2)]), (21, .v (.int .i64 v2.2)), (7, .fl (.own 5) 1 (List.map (Value.int .u8) v2.1)), (8, .v (.int .i64 v2.2))]) (init := [0, 1, 2, 3]) (fin := [0, 1, 10, 11]) (sps := [⟨[2], [], [4], [(.slot 18)]⟩, ⟨[4], [], [5], [(.slot 19)]⟩, ⟨[], [5], [6], [(.slot 17)]⟩, ⟨[], [6], [8, 7], [(.slot 20)]⟩, ⟨[8], [], [9], [(.slot 21)]⟩, ⟨[], [7], [10], [(.slot 7)]⟩, ⟨[9], [], [11], [(.slot 8)]⟩]) (es' := [(_, _), (_, _), (7, .fl (.own 5) 1 (List.map (Value.int .u8) v2.1)), (8, .v (.int .i64 v2.2))]) (by kernel_rfl) rfl rfl
      ⟨st_plain rfl (op_loadA _ _ _ _ _ _ _ Try.underlying24 rfl sz24 rfl rfl (Nat.le_of_ble_eq_true rfl) rfl rfl),
        st_plain rfl (op_call _ _ 12 _ _ rfl Try.call12 rfl (ok_frame_Bytes f _ hv2) rfl rfl),
        st_plain rfl (op_move_take _ _ _ _ rfl),
        st_plain rfl (op_extract_take _ _ _ _ _ rfl (Nat.le_of_ble_eq_true rfl) rfl rfl (by decide) rfl),
        st_plain rfl (op_extract _ _ _ _ _ rfl rfl (Nat.le_of_ble_eq_true rfl) rfl rfl),
        st_plain rfl (op_assign_take _ _ _ _ rfl),
        st_plain rfl (op_assign _ _ _ _ rfl rfl),
        trivial⟩ ?_
    refine pt_frz 2 hio (es' := [(1, .v (.int .i64 cut)), (2, .v (.int .u8 more)), (7, .fl .ro 1 (List.map (Value.int .u8) v2.1)), (8, .v (.int .i64 v2.2))]) rfl ?_
    refine pt_then ?_
    refine ht_seq ?_
    refine ht_seq ?_
    refine ht_joinS h (fun (s18 : Bool) => [(1, .v (.int .i64 cut)), (2, .v (.int .u8 more)), (7, .fl .ro 1 (List.map (Value.int .u8) v2.1)), (8, .v (.int .i64 v2.2)), (28, .v (.bool s18))]) ?_ ?_
    · rintro s18 h
      refine pt_then ?_
      refine ht_cond _ rfl (fun hb22 => ?_) (fun hb22 => ?_)
      · have h := cond_t hb22 h
        refine ht_seq ?_
        refine ht_joinS h (fun (s23 : Bool) => [(6, .v (.bool s23))]) ?_ ?_
        · rintro s23 h
          refine pt_then ?_
          refine ht_ret ?_
          refine pt_r_then ?_
          obtain rfl := Option.some.inj h
          exact pt_ret hio rfl (.tmp _ _ .nil) rfl rfl
        · intro u24 h hl25 hr26
          refine cond_some h (fun hg5_2 h => ?_) (fun hg5_2 h => ?_)
          · obtain ⟨v8, hv8, h⟩ := bind_some h
            refine ht_seqR hn (El := [_, _, _, _, _, (29, .v (.int .i64 v2.2)), (30, .v (.bool (v2.2 != 0))), (31, .v (.bool true)), (32, .v (.bool v8)), (33, .v (.bool v8)), (6, .v (.bool v8))]) (init := [0, 1, 2, 3, 4]) (fin := [10]) (sps := [⟨[3], [], [5], [(.slot 29)]⟩, ⟨[5], [], [6], [(.slot 30)]⟩, ⟨[6], [], [7], [(.slot 31)]⟩, ⟨[7], [], [8], [(.slot 32)]⟩, ⟨[7, 8], [], [9], [(.slot 33)]⟩, ⟨[9], [], [10], [(.slot 6)]⟩]) (es' := [(6, .v (.bool v8))]) (by kernel_rfl) rfl rfl
              ⟨st_plain rfl (op_move _ _ _ _ rfl rfl),
                st_plain rfl (op_bin _ _ _ _ _ rfl rfl rfl),
                st_plain rfl (op_move _ _ _ _ (congrArg (fun b => AV.v (Value.bool b)) hg5_2) rfl),
                st_run 2 31 true rfl rfl rfl (List.Mem.head _) (op_call _ _ 23 _ _ rfl Try.call23 rfl (ok_wherrylaw20_wakes  _ hv8) rfl rfl),
                st_plain rfl (op_pick _ _ true _ rfl rfl),
                st_plain rfl (op_assign _ _ _ _ rfl rfl),
                trivial⟩ ?_
            exact hl25 _ (Option.some.inj h).symm
          · refine ht_seqR hn (El := [_, _, _, _, _, (29, .v (.int .i64 v2.2)), (30, .v (.bool (v2.2 != 0))), (31, .v (.bool false)), (32, .v undef), (33, .v (.bool false)), (6, .v (.bool false))]) (init := [0, 1, 2, 3, 4]) (fin := [10]) (sps := [⟨[3], [], [5], [(.slot 29)]⟩, ⟨[5], [], [6], [(.slot 30)]⟩, ⟨[6], [], [7], [(.slot 31)]⟩, ⟨[7], [], [8], [(.slot 32)]⟩, ⟨[7], [], [9], [(.slot 33)]⟩, ⟨[9], [], [10], [(.slot 6)]⟩]) (es' := [(6, .v (.bool false))]) (by kernel_rfl) rfl rfl
              ⟨st_plain rfl (op_move _ _ _ _ rfl rfl),
                st_plain rfl (op_bin _ _ _ _ _ rfl rfl rfl),
                st_plain rfl (op_move _ _ _ _ (congrArg (fun b => AV.v (Value.bool b)) hg5_2) rfl),
                st_skip 2 31 _ true rfl rfl rfl rfl (List.Mem.head _),
                st_plain rfl (op_pick _ _ false _ rfl rfl),
                st_plain rfl (op_assign _ _ _ _ rfl rfl),
                trivial⟩ ?_
            exact hl25 _ (Option.some.inj h).symm
      · have h := cond_f hb22 h
        refine ht_skip ?_
        refine pt_then ?_
        refine ht_seq ?_
        obtain ⟨v13, hv13, h⟩ := bind_some h
        obtain ⟨v14, hv14, h⟩ := bind_some h
        obtain ⟨v15, hv15, h⟩ := bind_some h
        obtain ⟨v16, hv16, h⟩ := bind_some h
        obtain ⟨v27, hv27, h⟩ := bind_some h
        obtain ⟨v28, hv28, h⟩ := bind_some h
        refine ht_seqR hn (El := (_ :: _ :: _ :: _ :: _ :: (35, .fl .ro 1 (List.map (Value.int .u8) v2.1)) :: (36, .v (.int .i64 cut)) :: (37, .v (.int .u64 v13)) :: (38, .fl .ro 1 (List.map (Value.int .u8) v2.1)) :: (39, .v (.int .i64 (v2.1.length : Int))) :: (40, .v (.int .u64 v14)) :: (41, .v (.int .u64 v15)) :: (42, .v (.int .i64 v16)) :: (43, .fl .ro 1 (List.map (Value.int .u8) v27)) :: (44, .tup [.agg [.v (.int .i64 v28.1.Kind), .v (.int .i64 v28.1.Number), .v (.int .i64 v28.1.Offset), .v (.int .i64 v28.1.Seq), .fl (.own 5) 1 (List.map (Value.int .u8) v28.1.Data)], .v (.int .i64 v28.2)]) :: (34, .tup [.agg [.v (.int .i64 v28.1.Kind), .v (.int .i64 v28.1.Number), .v (.int .i64 v28.1.Offset), .v (.int .i64 v28.1.Seq), .fl (.own 5) 1 (List.map (Value.int .u8) v28.1.Data)], .v (.int .i64 v28.2)]) :: (45, .agg [.v (.int .i64 v28.1.Kind), .v (.int .i64 v28.1.Number), .v (.int .i64 v28.1.Offset), .v (.int .i64 v28.1.Seq), .fl (.own 5) 1 (List.map (Value.int .u8) v28.1.Data)]) :: (34, .tup [.any, .v (.int .i64 v28.2)]) :: (46, .v (.int .i64 v28.2)) :: (9, .box 24 [.v (.int .i64 0), .v (.int .i64 0), .v (.int .i64 0), .v (.int .i64 0), .v (.slice none 0 0)]) :: (9, .box 24 [.v (.int .i64 v28.1.Kind), .v (.int .i64 v28.1.Number), .v (.int .i64 v28.1.Offset), .v (.int .i64 v28.1.Seq), .fl (.own 5) 1 (List.map (Value.int .u8) v28.1.Data)]) :: (10, .v (.int .i64 v28.2)) :: [])) (init := [0, 1, 2, 3, 4]) (fin := [1, 2, 21]) (sps := (⟨[2], [], [5], [(.slot 35)]⟩ :: ⟨[0], [], [6], [(.slot 36)]⟩ :: ⟨[6], [], [7], [(.slot 37)]⟩ :: ⟨[2], [], [8], [(.slot 38)]⟩ :: ⟨[8], [], [9], [(.slot 39)]⟩ :: ⟨[9], [], [10], [(.slot 40)]⟩ :: ⟨[7, 10], [], [11], [(.slot 41)]⟩ :: ⟨[11], [], [12], [(.slot 42)]⟩ :: ⟨[5, 12], [], [13], [(.slot 43)]⟩ :: ⟨[13], [], [14], [(.slot 44)]⟩ :: ⟨[], [14], [15], [(.slot 34)]⟩ :: ⟨[], [15], [17, 16], [(.slot 45)]⟩ :: ⟨[17], [], [18], [(.slot 46)]⟩ :: ⟨[], [], [19], [(.slot 9)]⟩ :: ⟨[], [16, 19], [20], [.cell 9 0, .cell 9 1, .cell 9 2, .cell 9 3, .cell 9 4]⟩ :: ⟨[18], [], [21], [(.slot 10)]⟩ :: [])) (es' := [(_, _), (_, _), (10, .v (.int .i64 v28.2))]) (by kernel_rfl) rfl rfl
          ⟨st_plain rfl (op_move _ _ _ _ rfl rfl),
            st_plain rfl (op_move _ _ _ _ rfl rfl),
            st_plain rfl ((Option.some.inj hv13) ▸ op_conv _ _ _ Try.underlying3 Try.underlying43 rfl),
            st_plain rfl (op_move _ _ _ _ rfl rfl),
            st_plain rfl (op_len_fl _ _ _ Try.underlying22 rfl (by decide) (map_len _)),
            st_plain rfl ((Option.some.inj hv14) ▸ op_conv _ _ _ Try.underlying3 Try.underlying43 rfl),
            st_plain rfl (op_bin _ _ _ _ _ rfl rfl (rem_ok hv15)),
            st_plain rfl ((Option.some.inj hv16) ▸ op_conv _ _ _ Try.underlying43 Try.underlying3 rfl),
            st_plain rfl (op_sl _ _ _ 0 v16 _ Try.underlying22 sz5 rfl rfl rfl ⟨_, rfl⟩ hv27),
            st_plain rfl (op_call _ _ 13 _ _ rfl Try.call13 rfl (ok_frame_Read v27 _ hv28) rfl rfl),
            st_plain rfl (op_move_take _ _ _ _ rfl),
            st_plain rfl (op_extract_take _ _ _ _ _ rfl (Nat.le_of_ble_eq_true rfl) rfl rfl (by decide) rfl),
            st_plain rfl (op_extract _ _ _ _ _ rfl rfl (Nat.le_of_ble_eq_true rfl) rfl rfl),
            st_plain rfl (op_alloc _ _ zr24),
            st_plain rfl (op_store_take _ _ _ _ _ _ _ _ sz24 rfl rfl rfl (Nat.le_of_ble_eq_true rfl) rfl rfl),
            st_plain rfl (op_assign _ _ _ _ rfl rfl),
            trivial⟩ ?_
        refine pt_then ?_
        refine ht_seq ?_
        obtain ⟨v29, hv29, h⟩ := bind_some h
        obtain ⟨v30, hv30, h⟩ := bind_some h
        obtain ⟨v31, hv31, h⟩ := bind_some h
        refine ht_seqR hn (El := (_ :: _ :: _ :: (48, .fl .ro 1 (List.map (Value.int .u8) v2.1)) :: (49, .fl (.own 5) 1 (List.map (Value.int .u8) v29)) :: (50, .v (.int .u8 more)) :: (51, .fl (.own 5) 1 (List.map (Value.int .u8) [more])) :: (52, .fl (.own 5) 1 (List.map (Value.int .u8) v30)) :: (49, .any) :: (53, .tup [.agg [.v (.int .i64 v31.1.Kind), .v (.int .i64 v31.1.Number), .v (.int .i64 v31.1.Offset), .v (.int .i64 v31.1.Seq), .fl (.own 5) 1 (List.map (Value.int .u8) v31.1.Data)], .v (.int .i64 v31.2)]) :: (47, .tup [.agg [.v (.int .i64 v31.1.Kind), .v (.int .i64 v31.1.Number), .v (.int .i64 v31.1.Offset), .v (.int .i64 v31.1.Seq), .fl (.own 5) 1 (List.map (Value.int .u8) v31.1.Data)], .v (.int .i64 v31.2)]) :: (54, .agg [.v (.int .i64 v31.1.Kind), .v (.int .i64 v31.1.Number), .v (.int .i64 v31.1.Offset), .v (.int .i64 v31.1.Seq), .fl (.own 5) 1 (List.map (Value.int .u8) v31.1.Data)]) :: (47, .tup [.any, .v (.int .i64 v31.2)]) :: (55, .v (.int .i64 v31.2)) :: (11, .box 24 [.v (.int .i64 0), .v (.int .i64 0), .v (.int .i64 0), .v (.int .i64 0), .v (.slice none 0 0)]) :: (11, .box 24 [.v (.int .i64 v31.1.Kind), .v (.int .i64 v31.1.Number), .v (.int .i64 v31.1.Offset), .v (.int .i64 v31.1.Seq), .fl (.own 5) 1 (List.map (Value.int .u8) v31.1.Data)]) :: (12, .v (.int .i64 v31.2)) :: [])) (init := [0, 1, 2]) (fin := [2, 16]) (sps := [⟨[1], [], [3], [(.slot 48)]⟩, ⟨[3], [], [4], [(.slot 49)]⟩, ⟨[0], [], [5], [(.slot 50)]⟩, ⟨[5], [], [6], [(.slot 51)]⟩, ⟨[6], [4], [8, 7], [(.slot 52)]⟩, ⟨[7], [], [9], [(.slot 53)]⟩, ⟨[], [9], [10], [(.slot 47)]⟩, ⟨[], [10], [12, 11], [(.slot 54)]⟩, ⟨[12], [], [13], [(.slot 55)]⟩, ⟨[], [], [14], [(.slot 11)]⟩, ⟨[], [11, 14], [15], [.cell 11 0, .cell 11 1, .cell 11 2, .cell 11 3, .cell 11 4]⟩, ⟨[13], [], [16], [(.slot 12)]⟩]) (es' := [(_, _), (12, .v (.int .i64 v31.2))]) (by kernel_rfl) rfl rfl
          ⟨st_plain rfl (op_move _ _ _ _ rfl rfl),
            st_plain rfl (op_call _ _ 11 _ _ rfl Try.call11 rfl (ok_wherrykeep_Twin v2.1 _ hv29) rfl rfl),
            st_plain rfl (op_move _ _ _ _ rfl rfl),
            st_plain rfl (op_buildSlice _ _ 1 (.int .u8 0) (List.map (Value.int .u8) [more]) [(0, .int .u8 more)] Try.underlying22 sz5 zr5 (fun _ V w o a hv hes => by have e0 := rd_v hv hes (x := .tmp 50) rfl; simp only [List.map_toArray, List.map_cons, List.map_nil, e0]; try rfl) (litfill (by simp [Instr.fill, Value.cells]; rfl) (by simp [List.range, List.range.loop])) (by simp [Value.oneCell']) rfl (by decide) (by decide) (by decide)),
            st_plain rfl (op_app _ _ _ _ _ el22 rfl rfl (map_len _) (map_len _) hv30 ((List.map_append).symm.trans (congrArg (List.map _) (app_eq hv30)))),
            st_plain rfl (op_call _ _ 13 _ _ rfl Try.call13 rfl (ok_frame_Read v30 _ hv31) rfl rfl),
            st_plain rfl (op_move_take _ _ _ _ rfl),
            st_plain rfl (op_extract_take _ _ _ _ _ rfl (Nat.le_of_ble_eq_true rfl) rfl rfl (by decide) rfl),
            st_plain rfl (op_extract _ _ _ _ _ rfl rfl (Nat.le_of_ble_eq_true rfl) rfl rfl),
            st_plain rfl (op_alloc _ _ zr24),
            st_plain rfl (op_store_take _ _ _ _ _ _ _ _ sz24 rfl rfl rfl (Nat.le_of_ble_eq_true rfl) rfl rfl),
            st_plain rfl (op_assign _ _ _ _ rfl rfl),
            trivial⟩ ?_
        refine pt_then ?_
        refine ht_seq ?_
        refine ht_joinS h (fun (s33 : Bool) => [(6, .v (.bool s33))]) ?_ ?_
        · rintro s33 h
          refine pt_then ?_
          refine ht_ret ?_
          obtain rfl := Option.some.inj h
          exact pt_ret hio rfl (.tmp _ _ .nil) rfl rfl
        · intro u34 h hl35 hr36
          refine cond_some h (fun hg8_2 h => ?_) (fun hg8_2 h => ?_)
          · refine cond_some h (fun hg8_6 h => ?_) (fun hg8_6 h => ?_)
            · obtain ⟨v32, hv32, h⟩ := bind_some h
              refine ht_seqR hn (El := [_, _, (56, .v (.int .i64 v28.2)), (57, .v (.bool (v28.2 != 0))), (58, .v (.bool true)), (59, .v (.int .i64 v31.2)), (60, .v (.bool (v31.2 != 0))), (61, .v (.bool (v31.2 != 0))), (62, .v (.bool true)), (63, .v (.bool v32)), (64, .v (.bool v32)), (6, .v (.bool v32))]) (init := [0, 1]) (fin := [11]) (sps := [⟨[0], [], [2], [(.slot 56)]⟩, ⟨[2], [], [3], [(.slot 57)]⟩, ⟨[3], [], [4], [(.slot 58)]⟩, ⟨[4, 1], [], [5], [(.slot 59)]⟩, ⟨[4, 5], [], [6], [(.slot 60)]⟩, ⟨[4, 6], [], [7], [(.slot 61)]⟩, ⟨[7], [], [8], [(.slot 62)]⟩, ⟨[8], [], [9], [(.slot 63)]⟩, ⟨[8, 9], [], [10], [(.slot 64)]⟩, ⟨[10], [], [11], [(.slot 6)]⟩]) (es' := [(6, .v (.bool v32))]) (by kernel_rfl) rfl rfl
                ⟨st_plain rfl (op_move _ _ _ _ rfl rfl),
                  st_plain rfl (op_bin _ _ _ _ _ rfl rfl rfl),
                  st_plain rfl (op_move _ _ _ _ (congrArg (fun b => AV.v (Value.bool b)) hg8_2) rfl),
                  st_run 2 58 true rfl rfl rfl (List.Mem.head _) (op_move _ _ _ _ rfl rfl),
                  st_run 2 58 true rfl rfl rfl (List.Mem.head _) (op_bin _ _ _ _ _ rfl rfl rfl),
                  st_plain rfl (op_pick _ _ true _ rfl rfl),
                  st_plain rfl (op_move _ _ _ _ (congrArg (fun b => AV.v (Value.bool b)) hg8_6) rfl),
                  st_run 6 62 true rfl rfl rfl (List.Mem.head _) (op_call _ _ 23 _ _ rfl Try.call23 rfl (ok_wherrylaw20_wakes  _ hv32) rfl rfl),
                  st_plain rfl (op_pick _ _ true _ rfl rfl),
                  st_plain rfl (op_assign _ _ _ _ rfl rfl),
                  trivial⟩ ?_
              exact hl35 _ (Option.some.inj h).symm
            · refine ht_seqR hn (El := [_, _, (56, .v (.int .i64 v28.2)), (57, .v (.bool (v28.2 != 0))), (58, .v (.bool true)), (59, .v (.int .i64 v31.2)), (60, .v (.bool (v31.2 != 0))), (61, .v (.bool (v31.2 != 0))), (62, .v (.bool false)), (63, .v undef), (64, .v (.bool false)), (6, .v (.bool false))]) (init := [0, 1]) (fin := [11]) (sps := [⟨[0], [], [2], [(.slot 56)]⟩, ⟨[2], [], [3], [(.slot 57)]⟩, ⟨[3], [], [4], [(.slot 58)]⟩, ⟨[4, 1], [], [5], [(.slot 59)]⟩, ⟨[4, 5], [], [6], [(.slot 60)]⟩, ⟨[4, 6], [], [7], [(.slot 61)]⟩, ⟨[7], [], [8], [(.slot 62)]⟩, ⟨[8], [], [9], [(.slot 63)]⟩, ⟨[8], [], [10], [(.slot 64)]⟩, ⟨[10], [], [11], [(.slot 6)]⟩]) (es' := [(6, .v (.bool false))]) (by kernel_rfl) rfl rfl
                ⟨st_plain rfl (op_move _ _ _ _ rfl rfl),
                  st_plain rfl (op_bin _ _ _ _ _ rfl rfl rfl),
                  st_plain rfl (op_move _ _ _ _ (congrArg (fun b => AV.v (Value.bool b)) hg8_2) rfl),
                  st_run 2 58 true rfl rfl rfl (List.Mem.head _) (op_move _ _ _ _ rfl rfl),
                  st_run 2 58 true rfl rfl rfl (List.Mem.head _) (op_bin _ _ _ _ _ rfl rfl rfl),
                  st_plain rfl (op_pick _ _ true _ rfl rfl),
                  st_plain rfl (op_move _ _ _ _ (congrArg (fun b => AV.v (Value.bool b)) hg8_6) rfl),
                  st_skip 6 62 _ true rfl rfl rfl rfl (List.Mem.head _),
                  st_plain rfl (op_pick _ _ false _ rfl rfl),
                  st_plain rfl (op_assign _ _ _ _ rfl rfl),
                  trivial⟩ ?_
              exact hl35 _ (Option.some.inj h).symm
          · refine ht_seqR hn (El := [_, _, (56, .v (.int .i64 v28.2)), (57, .v (.bool (v28.2 != 0))), (58, .v (.bool false)), (59, .v undef), (60, .v undef), (61, .v (.bool false)), (62, .v (.bool false)), (63, .v undef), (64, .v (.bool false)), (6, .v (.bool false))]) (init := [0, 1]) (fin := [11]) (sps := [⟨[0], [], [2], [(.slot 56)]⟩, ⟨[2], [], [3], [(.slot 57)]⟩, ⟨[3], [], [4], [(.slot 58)]⟩, ⟨[4], [], [5], [(.slot 59)]⟩, ⟨[4], [], [6], [(.slot 60)]⟩, ⟨[4], [], [7], [(.slot 61)]⟩, ⟨[7], [], [8], [(.slot 62)]⟩, ⟨[8], [], [9], [(.slot 63)]⟩, ⟨[8], [], [10], [(.slot 64)]⟩, ⟨[10], [], [11], [(.slot 6)]⟩]) (es' := [(6, .v (.bool false))]) (by kernel_rfl) rfl rfl
              ⟨st_plain rfl (op_move _ _ _ _ rfl rfl),
                st_plain rfl (op_bin _ _ _ _ _ rfl rfl rfl),
                st_plain rfl (op_move _ _ _ _ (congrArg (fun b => AV.v (Value.bool b)) hg8_2) rfl),
                st_skip 2 58 _ true rfl rfl rfl rfl (List.Mem.head _),
                st_skip 2 58 _ true rfl rfl rfl rfl (List.Mem.head _),
                st_plain rfl (op_pick _ _ false _ rfl rfl),
                st_plain rfl (op_move _ _ _ _ rfl rfl),
                st_skip 6 62 _ true rfl rfl rfl rfl (List.Mem.head _),
                st_plain rfl (op_pick _ _ false _ rfl rfl),
                st_plain rfl (op_assign _ _ _ _ rfl rfl),
                trivial⟩ ?_
            exact hl35 _ (Option.some.inj h).symm
    · intro u19 h hl20 hr21
      refine cond_some h (fun hg4_2 h => ?_) (fun hg4_2 h => ?_)
      · refine ht_seqR hn (El := [_, _, _, _, (22, .v (.int .i64 v2.2)), (23, .v (.bool (v2.2 != 0))), (24, .v (.bool true)), (25, .v undef), (26, .v undef), (27, .v undef), (28, .v (.bool true))]) (init := [0, 1, 2, 3]) (fin := [0, 1, 2, 3, 10]) (sps := [⟨[3], [], [4], [(.slot 22)]⟩, ⟨[4], [], [5], [(.slot 23)]⟩, ⟨[5], [], [6], [(.slot 24)]⟩, ⟨[6], [], [7], [(.slot 25)]⟩, ⟨[6], [], [8], [(.slot 26)]⟩, ⟨[6], [], [9], [(.slot 27)]⟩, ⟨[6], [], [10], [(.slot 28)]⟩]) (es' := [(_, _), (_, _), (_, _), (_, _), (28, .v (.bool true))]) (by kernel_rfl) rfl rfl
          ⟨st_plain rfl (op_move _ _ _ _ rfl rfl),
            st_plain rfl (op_bin _ _ _ _ _ rfl rfl rfl),
            st_plain rfl (op_move _ _ _ _ (congrArg (fun b => AV.v (Value.bool b)) hg4_2) rfl),
            st_skip 2 24 _ false rfl rfl rfl rfl (List.Mem.head _),
            st_skip 2 24 _ false rfl rfl rfl rfl (List.Mem.head _),
            st_skip 2 24 _ false rfl rfl rfl rfl (List.Mem.head _),
            st_plain rfl (op_pick _ _ true _ rfl rfl),
            trivial⟩ ?_
        exact hl20 _ (Option.some.inj h).symm
      · refine ht_seqR hn (El := [_, _, _, _, (22, .v (.int .i64 v2.2)), (23, .v (.bool (v2.2 != 0))), (24, .v (.bool false)), (25, .fl .ro 1 (List.map (Value.int .u8) v2.1)), (26, .v (.int .i64 (v2.1.length : Int))), (27, .v (.bool (((v2.1.length : Int) == 0)))), (28, .v (.bool (((v2.1.length : Int) == 0))))]) (init := [0, 1, 2, 3]) (fin := [0, 1, 2, 3, 10]) (sps := [⟨[3], [], [4], [(.slot 22)]⟩, ⟨[4], [], [5], [(.slot 23)]⟩, ⟨[5], [], [6], [(.slot 24)]⟩, ⟨[6, 2], [], [7], [(.slot 25)]⟩, ⟨[6, 7], [], [8], [(.slot 26)]⟩, ⟨[6, 8], [], [9], [(.slot 27)]⟩, ⟨[6, 9], [], [10], [(.slot 28)]⟩]) (es' := [(_, _), (_, _), (_, _), (_, _), (28, .v (.bool (((v2.1.length : Int) == 0))))]) (by kernel_rfl) rfl rfl
          ⟨st_plain rfl (op_move _ _ _ _ rfl rfl),
            st_plain rfl (op_bin _ _ _ _ _ rfl rfl rfl),
            st_plain rfl (op_move _ _ _ _ (congrArg (fun b => AV.v (Value.bool b)) hg4_2) rfl),
            st_run 2 24 false rfl rfl rfl (List.Mem.head _) (op_move _ _ _ _ rfl rfl),
            st_run 2 24 false rfl rfl rfl (List.Mem.head _) (op_len_fl _ _ _ Try.underlying22 rfl (by decide) (map_len _)),
            st_run 2 24 false rfl rfl rfl (List.Mem.head _) (op_bin _ _ _ _ _ rfl rfl rfl),
            st_plain rfl (op_pick _ _ false _ rfl rfl),
            trivial⟩ ?_
        exact hl20 _ (Option.some.inj h).symm

set_option maxHeartbeats 1000000 in
theorem ok_wherryref18_in (n : Int) (lo : Int) (hi : Int) (r : Bool) (h : Sh.wherryref18_in n lo hi = some r) : FnOK Try.prog 25 [.v (.int .i64 n), .v (.int .i64 lo), .v (.int .i64 hi)] (.v (.bool r)) := by
  unfold Sh.wherryref18_in at h
  refine fn_ok Try.func25 rfl (Nat.le_of_ble_eq_true rfl) rfl rfl fun g0 hn hio => ?_
  refine ht_seq ?_
  refine ht_seqR hn (El := [_, _, _, (6, .v (.bool false))]) (init := [0, 1, 2]) (fin := [0, 1, 2]) (sps := [⟨[], [], [3], [(.slot 6)]⟩]) (es' := [(_, _), (_, _), (_, _)]) (by kernel_rfl) rfl rfl
    ⟨st_plain rfl (op_assign _ _ _ _ rfl rfl),
      trivial⟩ ?_
  refine pt_then ?_
  refine ht_seq ?_
  refine ht_joinS h (fun (s1 : Bool) => [(6, .v (.bool s1))]) ?_ ?_
  · rintro s1 h
    refine pt_then ?_
    refine ht_ret ?_
    obtain rfl := Option.some.inj h
    exact pt_ret hio rfl (.tmp _ _ .nil) rfl rfl
  · intro u2 h hl3 hr4
    refine cond_some h (fun hg1_3 h => ?_) (fun hg1_3 h => ?_)
    · refine ht_seqR hn (El := [_, _, _, (7, .v (.int .i64 n)), (8, .v (.int .i64 lo)), (9, .v (.bool ((decide (lo ≤ n))))), (10, .v (.bool true)), (11, .v (.int .i64 n)), (12, .v (.int .i64 hi)), (13, .v (.bool ((decide (n ≤ hi))))), (14, .v (.bool ((decide (n ≤ hi))))), (6, .v (.bool ((decide (n ≤ hi)))))]) (init := [0, 1, 2]) (fin := [11]) (sps := [⟨[0], [], [3], [(.slot 7)]⟩, ⟨[1], [], [4], [(.slot 8)]⟩, ⟨[3, 4], [], [5], [(.slot 9)]⟩, ⟨[5], [], [6], [(.slot 10)]⟩, ⟨[6, 0], [], [7], [(.slot 11)]⟩, ⟨[6, 2], [], [8], [(.slot 12)]⟩, ⟨[6, 7, 8], [], [9], [(.slot 13)]⟩, ⟨[6, 9], [], [10], [(.slot 14)]⟩, ⟨[10], [], [11], [(.slot 6)]⟩]) (es' := [(6, .v (.bool ((decide (n ≤ hi)))))]) (by kernel_rfl) rfl rfl
        ⟨st_plain rfl (op_move _ _ _ _ rfl rfl),
          st_plain rfl (op_move _ _ _ _ rfl rfl),
          st_plain rfl (op_bin _ _ _ _ _ rfl rfl rfl),
          st_plain rfl (op_move _ _ _ _ (congrArg (fun b => AV.v (Value.bool b)) hg1_3) rfl),
          st_run 3 10 true rfl rfl rfl (List.Mem.head _) (op_move _ _ _ _ rfl rfl),
          st_run 3 10 true rfl rfl rfl (List.Mem.head _) (op_move _ _ _ _ rfl rfl),
          st_run 3 10 true rfl rfl rfl (List.Mem.head _) (op_bin _ _ _ _ _ rfl rfl rfl),
          st_plain rfl (op_pick _ _ true _ rfl rfl),
          st_plain rfl (op_assign _ _ _ _ rfl rfl),
          trivial⟩ ?_
      exact hl3 _ (Option.some.inj h).symm
    · refine ht_seqR hn (El := [_, _, _, (7, .v (.int .i64 n)), (8, .v (.int .i64 lo)), (9, .v (.bool ((decide (lo ≤ n))))), (10, .v (.bool false)), (11, .v undef), (12, .v undef), (13, .v undef), (14, .v (.bool false)), (6, .v (.bool false))]) (init := [0, 1, 2]) (fin := [11]) (sps := [⟨[0], [], [3], [(.slot 7)]⟩, ⟨[1], [], [4], [(.slot 8)]⟩, ⟨[3, 4], [], [5], [(.slot 9)]⟩, ⟨[5], [], [6], [(.slot 10)]⟩, ⟨[6], [], [7], [(.slot 11)]⟩, ⟨[6], [], [8], [(.slot 12)]⟩, ⟨[6], [], [9], [(.slot 13)]⟩, ⟨[6], [], [10], [(.slot 14)]⟩, ⟨[10], [], [11], [(.slot 6)]⟩]) (es' := [(6, .v (.bool false))]) (by kernel_rfl) rfl rfl
        ⟨st_plain rfl (op_move _ _ _ _ rfl rfl),
          st_plain rfl (op_move _ _ _ _ rfl rfl),
          st_plain rfl (op_bin _ _ _ _ _ rfl rfl rfl),
          st_plain rfl (op_move _ _ _ _ (congrArg (fun b => AV.v (Value.bool b)) hg1_3) rfl),
          st_skip 3 10 _ true rfl rfl rfl rfl (List.Mem.head _),
          st_skip 3 10 _ true rfl rfl rfl rfl (List.Mem.head _),
          st_skip 3 10 _ true rfl rfl rfl rfl (List.Mem.head _),
          st_plain rfl (op_pick _ _ false _ rfl rfl),
          st_plain rfl (op_assign _ _ _ _ rfl rfl),
          trivial⟩ ?_
      exact hl3 _ (Option.some.inj h).symm

set_option maxHeartbeats 1000000 in
theorem ok_wherryref18_Frame (f : T_Frame) (r : Bool) (h : Sh.wherryref18_Frame f = some r) : FnOK Try.prog 15 [.agg [.v (.int .i64 f.Kind), .v (.int .i64 f.Number), .v (.int .i64 f.Offset), .v (.int .i64 f.Seq), .fl .shr 1 (List.map (Value.int .u8) f.Data)]] (.v (.bool r)) := by
  unfold Sh.wherryref18_Frame at h
  refine fn_ok Try.func15 rfl (Nat.le_of_ble_eq_true rfl) rfl rfl fun g0 hn hio => ?_
  refine ht_seq ?_
  refine ht_seqR hn (El := [_, (1, .box 24 [.v (.int .i64 f.Kind), .v (.int .i64 f.Number), .v (.int .i64 f.Offset), .v (.int .i64 f.Seq), .fl .shr 1 (List.map (Value.int .u8) f.Data)]), (2, .v (.bool false))]) (init := [0]) (fin := [1]) (sps := [⟨[0], [], [1], [(.slot 1)]⟩, ⟨[], [], [2], [(.slot 2)]⟩]) (es' := [(1, .box 24 [.v (.int .i64 f.Kind), .v (.int .i64 f.Number), .v (.int .i64 f.Offset), .v (.int .i64 f.Seq), .fl .shr 1 (List.map (Value.int .u8) f.Data)])]) (by kernel_rfl) rfl rfl
    ⟨st_plain rfl (op_box _ _ _ _ rfl rfl rfl),
      st_plain rfl (op_assign _ _ _ _ rfl rfl),
      trivial⟩ ?_
  refine pt_then ?_
  refine ht_seq ?_
  refine ht_seqR hn (El := [_, (5, .ptr 1 0), (6, .v (.int .i64 f.Kind)), (7, .ptr 1 1), (8, .v (.int .i64 f.Number)), (9, .agg [.v (.int .i64 f.Kind), .v (.int .i64 f.Number), .v (.int .i64 0), .v (.int .i64 0), .v (.slice none 0 0)]), (3, .box 24 [.v (.int .i64 0), .v (.int .i64 0), .v (.int .i64 0), .v (.int .i64 0), .v (.slice none 0 0)]), (3, .box 24 [.v (.int .i64 f.Kind), .v (.int .i64 f.Number), .v (.int .i64 0), .v (.int .i64 0), .v (.slice none 0 0)])]) (init := [0]) (fin := [0, 7]) (sps := [⟨[0], [], [1], [(.slot 5)]⟩, ⟨[1, 0], [], [2], [(.slot 6)]⟩, ⟨[0], [], [3], [(.slot 7)]⟩, ⟨[3, 0], [], [4], [(.slot 8)]⟩, ⟨[2, 4], [], [5], [(.slot 9)]⟩, ⟨[], [], [6], [(.slot 3)]⟩, ⟨[5], [6], [7], [.cell 3 0, .cell 3 1, .cell 3 2, .cell 3 3, .cell 3 4]⟩]) (es' := [(_, _), (3, .box 24 [.v (.int .i64 f.Kind), .v (.int .i64 f.Number), .v (.int .i64 0), .v (.int .i64 0), .v (.slice none 0 0)])]) (by kernel_rfl) rfl rfl
    ⟨st_plain rfl (op_fieldAddr _ _ _ _ 1 0 _ Try.underlying24 rfl sz3 rfl rfl (by decide)),
      st_plain rfl (op_load _ _ _ _ _ _ Try.underlying3 rfl rfl rfl (Nat.le_of_ble_eq_true rfl) rfl rfl rfl),
      st_plain rfl (op_fieldAddr _ _ _ _ 1 0 _ Try.underlying24 rfl sz3 rfl rfl (by decide)),
      st_plain rfl (op_load _ _ _ _ _ _ Try.underlying3 rfl rfl rfl (Nat.le_of_ble_eq_true rfl) rfl rfl rfl),
      st_plain rfl (op_build _ _ _ _ [1, 1, 1, 1, 1] _ _ Try.underlying24 zr24 (fs24 _ Try.underlying24) (.copy _ (.copy _ Src.nil)) rfl rfl rfl),
      st_plain rfl (op_alloc _ _ zr24),
      st_plain rfl (op_store _ _ _ _ _ _ _ _ sz24 rfl rfl rfl rfl (Nat.le_of_ble_eq_true rfl) rfl rfl),
      trivial⟩ ?_
  refine pt_then ?_
  refine ht_seq ?_
  obtain ⟨v1, hv1, h⟩ := bind_some h
  refine ht_seqR hn (El := [_, _, (10, .ptr 1 1), (11, .v (.int .i64 f.Number)), (12, .v (.bool v1)), (4, .v (.bool v1))]) (init := [0, 1]) (fin := [0, 1, 5]) (sps := [⟨[0], [], [2], [(.slot 10)]⟩, ⟨[2, 0], [], [3], [(.slot 11)]⟩, ⟨[3], [], [4], [(.slot 12)]⟩, ⟨[4], [], [5], [(.slot 4)]⟩]) (es' := [(_, _), (_, _), (4, .v (.bool v1))]) (by kernel_rfl) rfl rfl
    ⟨st_plain rfl (op_fieldAddr _ _ _ _ 1 0 _ Try.underlying24 rfl sz3 rfl rfl (by decide)),
      st_plain rfl (op_load _ _ _ _ _ _ Try.underlying3 rfl rfl rfl (Nat.le_of_ble_eq_true rfl) rfl rfl rfl),
      st_plain rfl (op_call _ _ 25 _ _ rfl Try.call25 rfl (ok_wherryref18_in f.Number 1 65535 _ hv1) rfl rfl),
      st_plain rfl (op_assign _ _ _ _ rfl rfl),
      trivial⟩ ?_
  refine pt_then ?_
  refine ht_seq ?_
  refine ht_joinS h (fun ((s58, s59, s60, s61) : Int × Int × (List Int) × Bool) => [(1, .box 24 [.v (.int .i64 f.Kind), .v (.int .i64 f.Number), .v (.int .i64 f.Offset), .v (.int .i64 f.Seq), .fl .shr 1 (List.map (Value.int .u8) f.Data)]), (3, .box 24 [.v (.int .i64 f.Kind), .v (.int .i64 f.Number), .v (.int .i64 s58), .v (.int .i64 s59), .fl .shr 1 (List.map (Value.int .u8) s60)]), (4, .v (.bool s61))]) ?_ ?_
  · rintro ⟨s58, s59, s60, s61⟩ h
    refine pt_then ?_
    refine ht_seq ?_
    refine ht_joinS h (fun (s117 : Bool) => [(2, .v (.bool s117))]) ?_ ?_
    · rintro s117 h
      refine pt_then ?_
      refine ht_ret ?_
      obtain rfl := Option.some.inj h
      exact pt_ret hio rfl (.tmp _ _ .nil) rfl rfl
    · intro u118 h hl119 hr120
      refine cond_some h (fun hg16_1 h => ?_) (fun hg16_1 h => ?_)
      · obtain ⟨v116, hv116, h⟩ := bind_some h
        refine ht_seqR hn (El := [_, _, _, (68, .v (.bool s61)), (69, .v (.bool true)), (70, .agg [.v (.int .i64 f.Kind), .v (.int .i64 f.Number), .v (.int .i64 s58), .v (.int .i64 s59), .fl .shr 1 (List.map (Value.int .u8) s60)]), (71, .agg [.v (.int .i64 f.Kind), .v (.int .i64 f.Number), .v (.int .i64 f.Offset), .v (.int .i64 f.Seq), .fl .shr 1 (List.map (Value.int .u8) f.Data)]), (72, .v (.bool v116)), (73, .v (.bool v116)), (2, .v (.bool v116))]) (init := [0, 1, 2]) (fin := [9]) (sps := [⟨[2], [], [3], [(.slot 68)]⟩, ⟨[3], [], [4], [(.slot 69)]⟩, ⟨[4, 1], [], [5], [(.slot 70)]⟩, ⟨[4, 0], [], [6], [(.slot 71)]⟩, ⟨[4, 5, 6], [], [7], [(.slot 72)]⟩, ⟨[4, 7], [], [8], [(.slot 73)]⟩, ⟨[8], [], [9], [(.slot 2)]⟩]) (es' := [(2, .v (.bool v116))]) (by kernel_rfl) rfl rfl
          ⟨st_plain rfl (op_move _ _ _ _ rfl rfl),
            st_plain rfl (op_move _ _ _ _ (congrArg (fun b => AV.v (Value.bool b)) hg16_1) rfl),
            st_run 1 69 true rfl rfl rfl (List.Mem.head _) (op_loadA _ _ _ _ _ _ _ Try.underlying24 rfl sz24 rfl rfl (Nat.le_of_ble_eq_true rfl) rfl rfl),
            st_run 1 69 true rfl rfl rfl (List.Mem.head _) (op_loadA _ _ _ _ _ _ _ Try.underlying24 rfl sz24 rfl rfl (Nat.le_of_ble_eq_true rfl) rfl rfl),
            st_run 1 69 true rfl rfl rfl (List.Mem.head _) (op_call _ _ 19 _ _ rfl Try.call19 rfl (ok_wherrykeep_Frame (T_Frame.mk f.Kind f.Number s58 s59 s60) f _ hv116) rfl rfl),
            st_plain rfl (op_pick _ _ true _ rfl rfl),
            st_plain rfl (op_assign _ _ _ _ rfl rfl),
            trivial⟩ ?_
        exact hl119 _ (Option.some.inj h).symm
      · refine ht_seqR hn (El := [_, _, _, (68, .v (.bool s61)), (69, .v (.bool false)), (70, .v undef), (71, .v undef), (72, .v undef), (73, .v (.bool false)), (2, .v (.bool false))]) (init := [0, 1, 2]) (fin := [9]) (sps := [⟨[2], [], [3], [(.slot 68)]⟩, ⟨[3], [], [4], [(.slot 69)]⟩, ⟨[4], [], [5], [(.slot 70)]⟩, ⟨[4], [], [6], [(.slot 71)]⟩, ⟨[4], [], [7], [(.slot 72)]⟩, ⟨[4], [], [8], [(.slot 73)]⟩, ⟨[8], [], [9], [(.slot 2)]⟩]) (es' := [(2, .v (.bool false))]) (by kernel_rfl) rfl rfl
          ⟨st_plain rfl (op_move _ _ _ _ rfl rfl),
            st_plain rfl (op_move _ _ _ _ (congrArg (fun b => AV.v (Value.bool b)) hg16_1) rfl),
            st_skip 1 69 _ true rfl rfl rfl rfl (List.Mem.head _),
            st_skip 1 69 _ true rfl rfl rfl rfl (List.Mem.head _),
            st_skip 1 69 _ true rfl rfl rfl rfl (List.Mem.head _),
            st_plain rfl (op_pick _ _ false _ rfl rfl),
            st_plain rfl (op_assign _ _ _ _ rfl rfl),
            trivial⟩ ?_
        exact hl119 _ (Option.some.inj h).symm
  · intro u62 h hl63 hr64
    refine ht_seq ?_
    refine ht_seqR hn (El := [_, _, _, (13, .ptr 1 0), (14, .v (.int .i64 f.Kind))]) (init := [0, 1, 2]) (fin := [0, 1, 2, 4]) (sps := [⟨[0], [], [3], [(.slot 13)]⟩, ⟨[3, 0], [], [4], [(.slot 14)]⟩]) (es' := [(_, _), (_, _), (_, _), (14, .v (.int .i64 f.Kind))]) (by kernel_rfl) rfl rfl
      ⟨st_plain rfl (op_fieldAddr _ _ _ _ 1 0 _ Try.underlying24 rfl sz3 rfl rfl (by decide)),
        st_plain rfl (op_load _ _ _ _ _ _ Try.underlying3 rfl rfl rfl (Nat.le_of_ble_eq_true rfl) rfl rfl rfl),
        trivial⟩ ?_
    refine pt_then ?_
    refine ht_joinS h (fun ((s87, s88, s89, s90) : Int × Int × (List Int) × Bool) => [(1, .box 24 [.v (.int .i64 f.Kind), .v (.int .i64 f.Number), .v (.int .i64 f.Offset), .v (.int .i64 f.Seq), .fl .shr 1 (List.map (Value.int .u8) f.Data)]), (3, .box 24 [.v (.int .i64 f.Kind), .v (.int .i64 f.Number), .v (.int .i64 s87), .v (.int .i64 s88), .fl .shr 1 (List.map (Value.int .u8) s89)]), (4, .v (.bool s90))]) ?_ ?_
    · rintro ⟨s87, s88, s89, s90⟩ h
      exact hl63 _ (Option.some.inj h).symm
    · intro u91 h hl92 hr93
      refine ht_block ?_
      refine ht_seq ?_
      refine ht_joinS h (fun (s95 : Bool) => [(1, .box 24 [.v (.int .i64 f.Kind), .v (.int .i64 f.Number), .v (.int .i64 f.Offset), .v (.int .i64 f.Seq), .fl .shr 1 (List.map (Value.int .u8) f.Data)]), (3, .box 24 [.v (.int .i64 f.Kind), .v (.int .i64 f.Number), .v (.int .i64 0), .v (.int .i64 0), .v (.slice none 0 0)]), (4, .v (.bool v1)), (14, .v (.int .i64 f.Kind)), (15, .v (.bool s95))]) ?_ ?_
      · rintro s95 h
        refine pt_then ?_
        refine ht_cond _ rfl (fun hb100 => ?_) (fun hb100 => ?_)
        · have h := cond_t hb100 h
          refine ht_seq ?_
          refine ht_seqR hn (El := [_, _, _, _, _, (18, .ptr 1 2), (19, .v (.int .i64 f.Offset)), (20, .ptr 3 2), (3, .box 24 [.v (.int .i64 f.Kind), .v (.int .i64 f.Number), .v (.int .i64 f.Offset), .v (.int .i64 0), .v (.slice none 0 0)])]) (init := [0, 1, 2, 3, 4]) (fin := [0, 8, 2]) (sps := [⟨[0], [], [5], [(.slot 18)]⟩, ⟨[5, 0], [], [6], [(.slot 19)]⟩, ⟨[1], [], [7], [(.slot 20)]⟩, ⟨[7, 6], [1], [8], [.cell 3 2]⟩]) (es' := [(_, _), (3, .box 24 [.v (.int .i64 f.Kind), .v (.int .i64 f.Number), .v (.int .i64 f.Offset), .v (.int .i64 0), .v (.slice none 0 0)]), (_, _)]) (by kernel_rfl) rfl rfl
            ⟨st_plain rfl (op_fieldAddr _ _ _ _ 1 0 _ Try.underlying24 rfl sz3 rfl rfl (by decide)),
              st_plain rfl (op_load _ _ _ _ _ _ Try.underlying3 rfl rfl rfl (Nat.le_of_ble_eq_true rfl) rfl rfl rfl),
              st_plain rfl (op_fieldAddr _ _ _ _ 3 0 _ Try.underlying24 rfl sz3 rfl rfl (by decide)),
              st_plain rfl (op_store _ _ _ _ _ _ _ _ sz3 rfl rfl rfl rfl (Nat.le_of_ble_eq_true rfl) rfl rfl),
              trivial⟩ ?_
          refine pt_then ?_
          refine ht_joinS h (fun (s101 : Bool) => [(1, .box 24 [.v (.int .i64 f.Kind), .v (.int .i64 f.Number), .v (.int .i64 f.Offset), .v (.int .i64 f.Seq), .fl .shr 1 (List.map (Value.int .u8) f.Data)]), (3, .box 24 [.v (.int .i64 f.Kind), .v (.int .i64 f.Number), .v (.int .i64 f.Offset), .v (.int .i64 0), .v (.slice none 0 0)]), (4, .v (.bool s101))]) ?_ ?_
          · rintro s101 h
            refine pt_inb ?_
            refine pt_sub (fs := [(1, .box 24 [.v (.int .i64 f.Kind), .v (.int .i64 f.Number), .v (.int .i64 f.Offset), .v (.int .i64 f.Seq), .fl .shr 1 (List.map (Value.int .u8) f.Data)]), (3, .box 24 [.v (.int .i64 f.Kind), .v (.int .i64 f.Number), .v (.int .i64 f.Offset), .v (.int .i64 0), .fl .shr 1 (List.map (Value.int .u8) [])]), (4, .v (.bool s101))]) (.same _ (.box _ _ (subs_cons (sub_refl _) (subs_cons (sub_refl _) (subs_cons (sub_refl _) (subs_cons (sub_refl _) (subs_cons (sub_nil_shr 1) (subs_nil)))))) rfl (.same _ .nil))) ?_
            exact hl92 _ (Option.some.inj h).symm
          · intro u102 h hl103 hr104
            refine cond_some h (fun hg8_1 h => ?_) (fun hg8_1 h => ?_)
            · obtain ⟨v9, hv9, h⟩ := bind_some h
              refine ht_seqR hn (El := [_, _, _, (21, .v (.bool v1)), (22, .v (.bool true)), (23, .ptr 1 2), (24, .v (.int .i64 f.Offset)), (25, .v (.bool v9)), (26, .v (.bool v9)), (4, .v (.bool v9))]) (init := [0, 1, 2]) (fin := [0, 1, 9]) (sps := [⟨[2], [], [3], [(.slot 21)]⟩, ⟨[3], [], [4], [(.slot 22)]⟩, ⟨[4, 0], [], [5], [(.slot 23)]⟩, ⟨[4, 5, 0], [], [6], [(.slot 24)]⟩, ⟨[4, 6], [], [7], [(.slot 25)]⟩, ⟨[4, 7], [], [8], [(.slot 26)]⟩, ⟨[8], [2], [9], [(.slot 4)]⟩]) (es' := [(_, _), (_, _), (4, .v (.bool v9))]) (by kernel_rfl) rfl rfl
                ⟨st_plain rfl (op_move _ _ _ _ rfl rfl),
                  st_plain rfl (op_move _ _ _ _ (congrArg (fun b => AV.v (Value.bool b)) hg8_1) rfl),
                  st_run 1 22 true rfl rfl rfl (List.Mem.head _) (op_fieldAddr _ _ _ _ 1 0 _ Try.underlying24 rfl sz3 rfl rfl (by decide)),
                  st_run 1 22 true rfl rfl rfl (List.Mem.head _) (op_load _ _ _ _ _ _ Try.underlying3 rfl rfl rfl (Nat.le_of_ble_eq_true rfl) rfl rfl rfl),
                  st_run 1 22 true rfl rfl rfl (List.Mem.head _) (op_call _ _ 25 _ _ rfl Try.call25 rfl (ok_wherryref18_in f.Offset 0 5000 _ hv9) rfl rfl),
                  st_plain rfl (op_pick _ _ true _ rfl rfl),
                  st_plain rfl (LOp.drop [_] (op_assign _ _ _ _ rfl rfl)),
                  trivial⟩ ?_
              exact hl103 _ (Option.some.inj h).symm
            · refine ht_seqR hn (El := [_, _, _, (21, .v (.bool v1)), (22, .v (.bool false)), (23, .v undef), (24, .v undef), (25, .v undef), (26, .v (.bool false)), (4, .v (.bool false))]) (init := [0, 1, 2]) (fin := [0, 1, 9]) (sps := [⟨[2], [], [3], [(.slot 21)]⟩, ⟨[3], [], [4], [(.slot 22)]⟩, ⟨[4], [], [5], [(.slot 23)]⟩, ⟨[4], [], [6], [(.slot 24)]⟩, ⟨[4], [], [7], [(.slot 25)]⟩, ⟨[4], [], [8], [(.slot 26)]⟩, ⟨[8], [2], [9], [(.slot 4)]⟩]) (es' := [(_, _), (_, _), (4, .v (.bool false))]) (by kernel_rfl) rfl rfl
                ⟨st_plain rfl (op_move _ _ _ _ rfl rfl),
                  st_plain rfl (op_move _ _ _ _ (congrArg (fun b => AV.v (Value.bool b)) hg8_1) rfl),
                  st_skip 1 22 _ true rfl rfl rfl rfl (List.Mem.head _),
                  st_skip 1 22 _ true rfl rfl rfl rfl (List.Mem.head _),
                  st_skip 1 22 _ true rfl rfl rfl rfl (List.Mem.head _),
                  st_plain rfl (op_pick _ _ false _ rfl rfl),
                  st_plain rfl (LOp.drop [_] (op_assign _ _ _ _ rfl rfl)),
                  trivial⟩ ?_
              exact hl103 _ (Option.some.inj h).symm
        · have h := cond_f hb100 h
          refine ht_seq ?_
          refine ht_seqR hn (El := [_, _, _, _, _, (28, .v (.bool (f.Kind == 3))), (27, .v (.bool (f.Kind == 3)))]) (init := [0, 1, 2, 3, 4]) (fin := [0, 1, 2, 3, 6]) (sps := [⟨[3], [], [5], [(.slot 28)]⟩, ⟨[5], [], [6], [(.slot 27)]⟩]) (es' := [(_, _), (_, _), (_, _), (_, _), (27, .v (.bool (f.Kind == 3)))]) (by kernel_rfl) rfl rfl
            ⟨st_plain rfl (op_bin _ _ _ _ _ rfl rfl rfl),
              st_plain rfl (op_assign _ _ _ _ rfl rfl),
              trivial⟩ ?_
          refine pt_then ?_
          refine ht_cond _ rfl (fun hb105 => ?_) (fun hb105 => ?_)
          · have h := cond_t hb105 h
            refine ht_seq ?_
            refine ht_anyR (by kernel_rfl) hn (El := (_ :: _ :: _ :: _ :: _ :: (29, .ptr 1 2) :: (30, .v (.int .i64 f.Offset)) :: (31, .ptr 1 3) :: (32, .v (.int .i64 f.Seq)) :: (33, .ptr 1 4) :: (34, .fl .shr 1 (List.map (Value.int .u8) f.Data)) :: (35, .ptr 3 2) :: (3, .box 24 [.v (.int .i64 f.Kind), .v (.int .i64 f.Number), .v (.int .i64 f.Offset), .v (.int .i64 0), .v (.slice none 0 0)]) :: (36, .ptr 3 3) :: (3, .box 24 [.v (.int .i64 f.Kind), .v (.int .i64 f.Number), .v (.int .i64 f.Offset), .v (.int .i64 f.Seq), .v (.slice none 0 0)]) :: (37, .ptr 3 4) :: (3, .box 24 [.v (.int .i64 f.Kind), .v (.int .i64 f.Number), .v (.int .i64 f.Offset), .v (.int .i64 f.Seq), .fl .shr 1 (List.map (Value.int .u8) f.Data)]) :: [])) (init := [0, 1, 2, 3, 4]) (fin := [0, 16, 2]) (sps := [⟨[0], [], [5], [(.slot 29)]⟩, ⟨[5, 0], [], [6], [(.slot 30)]⟩, ⟨[0], [], [7], [(.slot 31)]⟩, ⟨[7, 0], [], [8], [(.slot 32)]⟩, ⟨[0], [], [9], [(.slot 33)]⟩, ⟨[9, 0], [], [10], [(.slot 34)]⟩, ⟨[1], [], [11], [(.slot 35)]⟩, ⟨[11, 6], [1], [12], [.cell 3 2]⟩, ⟨[12], [], [13], [(.slot 36)]⟩, ⟨[13, 8], [12], [14], [.cell 3 3]⟩, ⟨[14], [], [15], [(.slot 37)]⟩, ⟨[15, 10], [14], [16], [.cell 3 4]⟩]) (es' := [(_, _), (3, .box 24 [.v (.int .i64 f.Kind), .v (.int .i64 f.Number), .v (.int .i64 f.Offset), .v (.int .i64 f.Seq), .fl .shr 1 (List.map (Value.int .u8) f.Data)]), (_, _)]) (by kernel_rfl) rfl rfl
              ⟨st_plain rfl (op_fieldAddr _ _ _ _ 1 0 _ Try.underlying24 rfl sz3 rfl rfl (by decide)),
                st_plain rfl (op_load _ _ _ _ _ _ Try.underlying3 rfl rfl rfl (Nat.le_of_ble_eq_true rfl) rfl rfl rfl),
                st_plain rfl (op_fieldAddr _ _ _ _ 1 0 _ Try.underlying24 rfl sz3 rfl rfl (by decide)),
                st_plain rfl (op_load _ _ _ _ _ _ Try.underlying3 rfl rfl rfl (Nat.le_of_ble_eq_true rfl) rfl rfl rfl),
                st_plain rfl (op_fieldAddr _ _ _ _ 1 0 _ Try.underlying24 rfl sz22 rfl rfl (by decide)),
                st_plain rfl (op_load _ _ _ _ _ _ Try.underlying22 rfl rfl rfl (Nat.le_of_ble_eq_true rfl) rfl rfl rfl),
                st_plain rfl (op_fieldAddr _ _ _ _ 3 0 _ Try.underlying24 rfl sz3 rfl rfl (by decide)),
                st_plain rfl (op_store _ _ _ _ _ _ _ _ sz3 rfl rfl rfl rfl (Nat.le_of_ble_eq_true rfl) rfl rfl),
                st_plain rfl (op_fieldAddr _ _ _ _ 3 0 _ Try.underlying24 rfl sz3 rfl rfl (by decide)),
                st_plain rfl (op_store _ _ _ _ _ _ _ _ sz3 rfl rfl rfl rfl (Nat.le_of_ble_eq_true rfl) rfl rfl),
                st_plain rfl (op_fieldAddr _ _ _ _ 3 0 _ Try.underlying24 rfl sz22 rfl rfl (by decide)),
                st_plain rfl (op_store _ _ _ _ _ _ _ _ sz22 rfl rfl rfl rfl (Nat.le_of_ble_eq_true rfl) rfl rfl),
                trivial⟩ ?_
            refine pt_then ?_
            refine ht_joinS h (fun (s106 : Bool) => [(1, .box 24 [.v (.int .i64 f.Kind), .v (.int .i64 f.Number), .v (.int .i64 f.Offset), .v (.int .i64 f.Seq), .fl .shr 1 (List.map (Value.int .u8) f.Data)]), (3, .box 24 [.v (.int .i64 f.Kind), .v (.int .i64 f.Number), .v (.int .i64 f.Offset), .v (.int .i64 f.Seq), .fl .shr 1 (List.map (Value.int .u8) f.Data)]), (4, .v (.bool s106))]) ?_ ?_
            · rintro s106 h
              refine pt_inb ?_
              exact hl92 _ (Option.some.inj h).symm
            · intro u107 h hl108 hr109
              refine cond_some h (fun hg11_1 h => ?_) (fun hg11_1 h => ?_)
              · obtain ⟨v15, hv15, h⟩ := bind_some h
                refine cond_some h (fun hg11_6 h => ?_) (fun hg11_6 h => ?_)
                · obtain ⟨v16, hv16, h⟩ := bind_some h
                  refine cond_some h (fun hg11_11 h => ?_) (fun hg11_11 h => ?_)
                  · obtain ⟨v17, hv17, h⟩ := bind_some h
                    refine ht_seqR hn (El := (_ :: _ :: _ :: (38, .v (.bool v1)) :: (39, .v (.bool true)) :: (40, .ptr 1 2) :: (41, .v (.int .i64 f.Offset)) :: (42, .v (.bool v15)) :: (43, .v (.bool v15)) :: (44, .v (.bool true)) :: (45, .ptr 1 3) :: (46, .v (.int .i64 f.Seq)) :: (47, .v (.bool v16)) :: (48, .v (.bool v16)) :: (49, .v (.bool true)) :: (50, .ptr 1 4) :: (51, .fl .shr 1 (List.map (Value.int .u8) f.Data)) :: (52, .v (.int .i64 (f.Data.length : Int))) :: (53, .v (.bool v17)) :: (54, .v (.bool v17)) :: (4, .v (.bool v17)) :: [])) (init := [0, 1, 2]) (fin := [0, 1, 20]) (sps := (⟨[2], [], [3], [(.slot 38)]⟩ :: ⟨[3], [], [4], [(.slot 39)]⟩ :: ⟨[4, 0], [], [5], [(.slot 40)]⟩ :: ⟨[4, 5, 0], [], [6], [(.slot 41)]⟩ :: ⟨[4, 6], [], [7], [(.slot 42)]⟩ :: ⟨[4, 7], [], [8], [(.slot 43)]⟩ :: ⟨[8], [], [9], [(.slot 44)]⟩ :: ⟨[9, 0], [], [10], [(.slot 45)]⟩ :: ⟨[9, 10, 0], [], [11], [(.slot 46)]⟩ :: ⟨[9, 11], [], [12], [(.slot 47)]⟩ :: ⟨[9, 12], [], [13], [(.slot 48)]⟩ :: ⟨[13], [], [14], [(.slot 49)]⟩ :: ⟨[14, 0], [], [15], [(.slot 50)]⟩ :: ⟨[14, 15, 0], [], [16], [(.slot 51)]⟩ :: ⟨[14, 16], [], [17], [(.slot 52)]⟩ :: ⟨[14, 17], [], [18], [(.slot 53)]⟩ :: ⟨[14, 18], [], [19], [(.slot 54)]⟩ :: ⟨[19], [2], [20], [(.slot 4)]⟩ :: [])) (es' := [(_, _), (_, _), (4, .v (.bool v17))]) (by kernel_rfl) rfl rfl
                      ⟨st_plain rfl (op_move _ _ _ _ rfl rfl),
                        st_plain rfl (op_move _ _ _ _ (congrArg (fun b => AV.v (Value.bool b)) hg11_1) rfl),
                        st_run 1 39 true rfl rfl rfl (List.Mem.head _) (op_fieldAddr _ _ _ _ 1 0 _ Try.underlying24 rfl sz3 rfl rfl (by decide)),
                        st_run 1 39 true rfl rfl rfl (List.Mem.head _) (op_load _ _ _ _ _ _ Try.underlying3 rfl rfl rfl (Nat.le_of_ble_eq_true rfl) rfl rfl rfl),
                        st_run 1 39 true rfl rfl rfl (List.Mem.head _) (op_call _ _ 25 _ _ rfl Try.call25 rfl (ok_wherryref18_in f.Offset 0 5000 _ hv15) rfl rfl),
                        st_plain rfl (op_pick _ _ true _ rfl rfl),
                        st_plain rfl (op_move _ _ _ _ (congrArg (fun b => AV.v (Value.bool b)) hg11_6) rfl),
                        st_run 6 44 true rfl rfl rfl (List.Mem.head _) (op_fieldAddr _ _ _ _ 1 0 _ Try.underlying24 rfl sz3 rfl rfl (by decide)),
                        st_run 6 44 true rfl rfl rfl (List.Mem.head _) (op_load _ _ _ _ _ _ Try.underlying3 rfl rfl rfl (Nat.le_of_ble_eq_true rfl) rfl rfl rfl),
                        st_run 6 44 true rfl rfl rfl (List.Mem.head _) (op_call _ _ 25 _ _ rfl Try.call25 rfl (ok_wherryref18_in f.Seq 0 7 _ hv16) rfl rfl),
                        st_plain rfl (op_pick _ _ true _ rfl rfl),
                        st_plain rfl (op_move _ _ _ _ (congrArg (fun b => AV.v (Value.bool b)) hg11_11) rfl),
                        st_run 11 49 true rfl rfl rfl (List.Mem.head _) (op_fieldAddr _ _ _ _ 1 0 _ Try.underlying24 rfl sz22 rfl rfl (by decide)),
                        st_run 11 49 true rfl rfl rfl (List.Mem.head _) (op_load _ _ _ _ _ _ Try.underlying22 rfl rfl rfl (Nat.le_of_ble_eq_true rfl) rfl rfl rfl),
                        st_run 11 49 true rfl rfl rfl (List.Mem.head _) (op_len_fl _ _ _ Try.underlying22 rfl (by decide) (map_len _)),
                        st_run 11 49 true rfl rfl rfl (List.Mem.head _) (op_call _ _ 25 _ _ rfl Try.call25 rfl (ok_wherryref18_in (f.Data.length : Int) 1 48 _ hv17) rfl rfl),
                        st_plain rfl (op_pick _ _ true _ rfl rfl),
                        st_plain rfl (LOp.drop [_] (op_assign _ _ _ _ rfl rfl)),
                        trivial⟩ ?_
                    exact hl108 _ (Option.some.inj h).symm
                  · refine ht_seqR hn (El := (_ :: _ :: _ :: (38, .v (.bool v1)) :: (39, .v (.bool true)) :: (40, .ptr 1 2) :: (41, .v (.int .i64 f.Offset)) :: (42, .v (.bool v15)) :: (43, .v (.bool v15)) :: (44, .v (.bool true)) :: (45, .ptr 1 3) :: (46, .v (.int .i64 f.Seq)) :: (47, .v (.bool v16)) :: (48, .v (.bool v16)) :: (49, .v (.bool false)) :: (50, .v undef) :: (51, .v undef) :: (52, .v undef) :: (53, .v undef) :: (54, .v (.bool false)) :: (4, .v (.bool false)) :: [])) (init := [0, 1, 2]) (fin := [0, 1, 20]) (sps := (⟨[2], [], [3], [(.slot 38)]⟩ :: ⟨[3], [], [4], [(.slot 39)]⟩ :: ⟨[4, 0], [], [5], [(.slot 40)]⟩ :: ⟨[4, 5, 0], [], [6], [(.slot 41)]⟩ :: ⟨[4, 6], [], [7], [(.slot 42)]⟩ :: ⟨[4, 7], [], [8], [(.slot 43)]⟩ :: ⟨[8], [], [9], [(.slot 44)]⟩ :: ⟨[9, 0], [], [10], [(.slot 45)]⟩ :: ⟨[9, 10, 0], [], [11], [(.slot 46)]⟩ :: ⟨[9, 11], [], [12], [(.slot 47)]⟩ :: ⟨[9, 12], [], [13], [(.slot 48)]⟩ :: ⟨[13], [], [14], [(.slot 49)]⟩ :: ⟨[14], [], [15], [(.slot 50)]⟩ :: ⟨[14], [], [16], [(.slot 51)]⟩ :: ⟨[14], [], [17], [(.slot 52)]⟩ :: ⟨[14], [], [18], [(.slot 53)]⟩ :: ⟨[14], [], [19], [(.slot 54)]⟩ :: ⟨[19], [2], [20], [(.slot 4)]⟩ :: [])) (es' := [(_, _), (_, _), (4, .v (.bool false))]) (by kernel_rfl) rfl rfl
                      ⟨st_plain rfl (op_move _ _ _ _ rfl rfl),
                        st_plain rfl (op_move _ _ _ _ (congrArg (fun b => AV.v (Value.bool b)) hg11_1) rfl),
                        st_run 1 39 true rfl rfl rfl (List.Mem.head _) (op_fieldAddr _ _ _ _ 1 0 _ Try.underlying24 rfl sz3 rfl rfl (by decide)),
                        st_run 1 39 true rfl rfl rfl (List.Mem.head _) (op_load _ _ _ _ _ _ Try.underlying3 rfl rfl rfl (Nat.le_of_ble_eq_true rfl) rfl rfl rfl),
                        st_run 1 39 true rfl rfl rfl (List.Mem.head _) (op_call _ _ 25 _ _ rfl Try.call25 rfl (ok_wherryref18_in f.Offset 0 5000 _ hv15) rfl rfl),
                        st_plain rfl (op_pick _ _ true _ rfl rfl),
                        st_plain rfl (op_move _ _ _ _ (congrArg (fun b => AV.v (Value.bool b)) hg11_6) rfl),
                        st_run 6 44 true rfl rfl rfl (List.Mem.head _) (op_fieldAddr _ _ _ _ 1 0 _ Try.underlying24 rfl sz3 rfl rfl (by decide)),
                        st_run 6 44 true rfl rfl rfl (List.Mem.head _) (op_load _ _ _ _ _ _ Try.underlying3 rfl rfl rfl (Nat.le_of_ble_eq_true rfl) rfl rfl rfl),
                        st_run 6 44 true rfl rfl rfl (List.Mem.head _) (op_call _ _ 25 _ _ rfl Try.call25 rfl (ok_wherryref18_in f.Seq 0 7 _ hv16) rfl rfl),
                        st_plain rfl (op_pick _ _ true _ rfl rfl),
                        st_plain rfl (op_move _ _ _ _ (congrArg (fun b => AV.v (Value.bool b)) hg11_11) rfl),
                        st_skip 11 49 _ true rfl rfl rfl rfl (List.Mem.head _),
                        st_skip 11 49 _ true rfl rfl rfl rfl (List.Mem.head _),
                        st_skip 11 49 _ true rfl rfl rfl rfl (List.Mem.head _),
                        st_skip 11 49 _ true rfl rfl rfl rfl (List.Mem.head _),
                        st_plain rfl (op_pick _ _ false _ rfl rfl),
                        st_plain rfl (LOp.drop [_] (op_assign _ _ _ _ rfl rfl)),
                        trivial⟩ ?_
                    exact hl108 _ (Option.some.inj h).symm
                · refine ht_seqR hn (El := (_ :: _ :: _ :: (38, .v (.bool v1)) :: (39, .v (.bool true)) :: (40, .ptr 1 2) :: (41, .v (.int .i64 f.Offset)) :: (42, .v (.bool v15)) :: (43, .v (.bool v15)) :: (44, .v (.bool false)) :: (45, .v undef) :: (46, .v undef) :: (47, .v undef) :: (48, .v (.bool false)) :: (49, .v (.bool false)) :: (50, .v undef) :: (51, .v undef) :: (52, .v undef) :: (53, .v undef) :: (54, .v (.bool false)) :: (4, .v (.bool false)) :: [])) (init := [0, 1, 2]) (fin := [0, 1, 20]) (sps := (⟨[2], [], [3], [(.slot 38)]⟩ :: ⟨[3], [], [4], [(.slot 39)]⟩ :: ⟨[4, 0], [], [5], [(.slot 40)]⟩ :: ⟨[4, 5, 0], [], [6], [(.slot 41)]⟩ :: ⟨[4, 6], [], [7], [(.slot 42)]⟩ :: ⟨[4, 7], [], [8], [(.slot 43)]⟩ :: ⟨[8], [], [9], [(.slot 44)]⟩ :: ⟨[9], [], [10], [(.slot 45)]⟩ :: ⟨[9], [], [11], [(.slot 46)]⟩ :: ⟨[9], [], [12], [(.slot 47)]⟩ :: ⟨[9], [], [13], [(.slot 48)]⟩ :: ⟨[13], [], [14], [(.slot 49)]⟩ :: ⟨[14], [], [15], [(.slot 50)]⟩ :: ⟨[14], [], [16], [(.slot 51)]⟩ :: ⟨[14], [], [17], [(.slot 52)]⟩ :: ⟨[14], [], [18], [(.slot 53)]⟩ :: ⟨[14], [], [19], [(.slot 54)]⟩ :: ⟨[19], [2], [20], [(.slot 4)]⟩ :: [])) (es' := [(_, _), (_, _), (4, .v (.bool false))]) (by kernel_rfl) rfl rfl
                    ⟨st_plain rfl (op_move _ _ _ _ rfl rfl),
                      st_plain rfl (op_move _ _ _ _ (congrArg (fun b => AV.v (Value.bool b)) hg11_1) rfl),
                      st_run 1 39 true rfl rfl rfl (List.Mem.head _) (op_fieldAddr _ _ _ _ 1 0 _ Try.underlying24 rfl sz3 rfl rfl (by decide)),
                      st_run 1 39 true rfl rfl rfl (List.Mem.head _) (op_load _ _ _ _ _ _ Try.underlying3 rfl rfl rfl (Nat.le_of_ble_eq_true rfl) rfl rfl rfl),
                      st_run 1 39 true rfl rfl rfl (List.Mem.head _) (op_call _ _ 25 _ _ rfl Try.call25 rfl (ok_wherryref18_in f.Offset 0 5000 _ hv15) rfl rfl),
                      st_plain rfl (op_pick _ _ true _ rfl rfl),
                      st_plain rfl (op_move _ _ _ _ (congrArg (fun b => AV.v (Value.bool b)) hg11_6) rfl),
                      st_skip 6 44 _ true rfl rfl rfl rfl (List.Mem.head _),
                      st_skip 6 44 _ true rfl rfl rfl rfl (List.Mem.head _),
                      st_skip 6 44 _ true rfl rfl rfl rfl (List.Mem.head _),
                      st_plain rfl (op_pick _ _ false _ rfl rfl),
                      st_plain rfl (op_move _ _ _ _ rfl rfl),
                      st_skip 11 49 _ true rfl rfl rfl rfl (List.Mem.head _),
                      st_skip 11 49 _ true rfl rfl rfl rfl (List.Mem.head _),
                      st_skip 11 49 _ true rfl rfl rfl rfl (List.Mem.head _),
                      st_skip 11 49 _ true rfl rfl rfl rfl (List.Mem.head _),
                      st_plain rfl (op_pick _ _ false _ rfl rfl),
                      st_plain rfl (LOp.drop [_] (op_assign _ _ _ _ rfl rfl)),
                      trivial⟩ ?_
                  exact hl108 _ (Option.some.inj h).symm
              · refine ht_seqR hn (El := (_ :: _ :: _ :: (38, .v (.bool v1)) :: (39, .v (.bool false)) :: (40, .v undef) :: (41, .v undef) :: (42, .v undef) :: (43, .v (.bool false)) :: (44, .v (.bool false)) :: (45, .v undef) :: (46, .v undef) :: (47, .v undef) :: (48, .v (.bool false)) :: (49, .v (.bool false)) :: (50, .v undef) :: (51, .v undef) :: (52, .v undef) :: (53, .v undef) :: (54, .v (.bool false)) :: (4, .v (.bool false)) :: [])) (init := [0, 1, 2]) (fin := [0, 1, 20]) (sps := (⟨[2], [], [3], [(.slot 38)]⟩ :: ⟨[3], [], [4], [(.slot 39)]⟩ :: ⟨[4], [], [5], [(.slot 40)]⟩ :: ⟨[4], [], [6], [(.slot 41)]⟩ :: ⟨[4], [], [7], [(.slot 42)]⟩ :: ⟨[4], [], [8], [(.slot 43)]⟩ :: ⟨[8], [], [9], [(.slot 44)]⟩ :: ⟨[9], [], [10], [(.slot 45)]⟩ :: ⟨[9], [], [11], [(.slot 46)]⟩ :: ⟨[9], [], [12], [(.slot 47)]⟩ :: ⟨[9], [], [13], [(.slot 48)]⟩ :: ⟨[13], [], [14], [(.slot 49)]⟩ :: ⟨[14], [], [15], [(.slot 50)]⟩ :: ⟨[14], [], [16], [(.slot 51)]⟩ :: ⟨[14], [], [17], [(.slot 52)]⟩ :: ⟨[14], [], [18], [(.slot 53)]⟩ :: ⟨[14], [], [19], [(.slot 54)]⟩ :: ⟨[19], [2], [20], [(.slot 4)]⟩ :: [])) (es' := [(_, _), (_, _), (4, .v (.bool false))]) (by kernel_rfl) rfl rfl
                  ⟨st_plain rfl (op_move _ _ _ _ rfl rfl),
                    st_plain rfl (op_move _ _ _ _ (congrArg (fun b => AV.v (Value.bool b)) hg11_1) rfl),
                    st_skip 1 39 _ true rfl rfl rfl rfl (List.Mem.head _),
                    st_skip 1 39 _ true rfl rfl rfl rfl (List.Mem.head _),
                    st_skip 1 39 _ true rfl rfl rfl rfl (List.Mem.head _),
                    st_plain rfl (op_pick _ _ false _ rfl rfl),
                    st_plain rfl (op_move _ _ _ _ rfl rfl),
                    st_skip 6 44 _ true rfl rfl rfl rfl (List.Mem.head _),
                    st_skip 6 44 _ true rfl rfl rfl rfl (List.Mem.head _),
                    st_skip 6 44 _ true rfl rfl rfl rfl (List.Mem.head _),
                    st_plain rfl (op_pick _ _ false _ rfl rfl),
                    st_plain rfl (op_move _ _ _ _ rfl rfl),
                    st_skip 11 49 _ true rfl rfl rfl rfl (List.Mem.head _),
                    st_skip 11 49 _ true rfl rfl rfl rfl (List.Mem.head _),
                    st_skip 11 49 _ true rfl rfl rfl rfl (List.Mem.head _),
                    st_skip 11 49 _ true rfl rfl rfl rfl (List.Mem.head _),
                    st_plain rfl (op_pick _ _ false _ rfl rfl),
                    st_plain rfl (LOp.drop [_] (op_assign _ _ _ _ rfl rfl)),
                    trivial⟩ ?_
                exact hl108 _ (Option.some.inj h).symm
          · have h := cond_f hb105 h
            refine ht_seq ?_
            refine ht_seqR hn (El := [_, _, _, _, _, (56, .v (.bool (f.Kind == 4))), (55, .v (.bool (f.Kind == 4)))]) (init := [0, 1, 2, 3, 4]) (fin := [0, 1, 2, 3, 6]) (sps := [⟨[3], [], [5], [(.slot 56)]⟩, ⟨[5], [], [6], [(.slot 55)]⟩]) (es' := [(_, _), (_, _), (_, _), (_, _), (55, .v (.bool (f.Kind == 4)))]) (by kernel_rfl) rfl rfl
              ⟨st_plain rfl (op_bin _ _ _ _ _ rfl rfl rfl),
                st_plain rfl (op_assign _ _ _ _ rfl rfl),
                trivial⟩ ?_
            refine pt_then ?_
            refine ht_cond _ rfl (fun hb110 => ?_) (fun hb110 => ?_)
            · have h := cond_t hb110 h
              refine ht_seq ?_
              refine ht_seqR hn (El := [_, _, _, _, _, (57, .ptr 1 3), (58, .v (.int .i64 f.Seq)), (59, .ptr 3 3), (3, .box 24 [.v (.int .i64 f.Kind), .v (.int .i64 f.Number), .v (.int .i64 0), .v (.int .i64 f.Seq), .v (.slice none 0 0)])]) (init := [0, 1, 2, 3, 4]) (fin := [0, 8, 2]) (sps := [⟨[0], [], [5], [(.slot 57)]⟩, ⟨[5, 0], [], [6], [(.slot 58)]⟩, ⟨[1], [], [7], [(.slot 59)]⟩, ⟨[7, 6], [1], [8], [.cell 3 3]⟩]) (es' := [(_, _), (3, .box 24 [.v (.int .i64 f.Kind), .v (.int .i64 f.Number), .v (.int .i64 0), .v (.int .i64 f.Seq), .v (.slice none 0 0)]), (_, _)]) (by kernel_rfl) rfl rfl
                ⟨st_plain rfl (op_fieldAddr _ _ _ _ 1 0 _ Try.underlying24 rfl sz3 rfl rfl (by decide)),
                  st_plain rfl (op_load _ _ _ _ _ _ Try.underlying3 rfl rfl rfl (Nat.le_of_ble_eq_true rfl) rfl rfl rfl),
                  st_plain rfl (op_fieldAddr _ _ _ _ 3 0 _ Try.underlying24 rfl sz3 rfl rfl (by decide)),
                  st_plain rfl (op_store _ _ _ _ _ _ _ _ sz3 rfl rfl rfl rfl (Nat.le_of_ble_eq_true rfl) rfl rfl),
                  trivial⟩ ?_
              refine pt_then ?_
              refine ht_joinS h (fun (s111 : Bool) => [(1, .box 24 [.v (.int .i64 f.Kind), .v (.int .i64 f.Number), .v (.int .i64 f.Offset), .v (.int .i64 f.Seq), .fl .shr 1 (List.map (Value.int .u8) f.Data)]), (3, .box 24 [.v (.int .i64 f.Kind), .v (.int .i64 f.Number), .v (.int .i64 0), .v (.int .i64 f.Seq), .v (.slice none 0 0)]), (4, .v (.bool s111))]) ?_ ?_
              · rintro s111 h
                refine pt_inb ?_
                refine pt_sub (fs := [(1, .box 24 [.v (.int .i64 f.Kind), .v (.int .i64 f.Number), .v (.int .i64 f.Offset), .v (.int .i64 f.Seq), .fl .shr 1 (List.map (Value.int .u8) f.Data)]), (3, .box 24 [.v (.int .i64 f.Kind), .v (.int .i64 f.Number), .v (.int .i64 0), .v (.int .i64 f.Seq), .fl .shr 1 (List.map (Value.int .u8) [])]), (4, .v (.bool s111))]) (.same _ (.box _ _ (subs_cons (sub_refl _) (subs_cons (sub_refl _) (subs_cons (sub_refl _) (subs_cons (sub_refl _) (subs_cons (sub_nil_shr 1) (subs_nil)))))) rfl (.same _ .nil))) ?_
                exact hl92 _ (Option.some.inj h).symm
              · intro u112 h hl113 hr114
                refine cond_some h (fun hg14_1 h => ?_) (fun hg14_1 h => ?_)
                · obtain ⟨v23, hv23, h⟩ := bind_some h
                  refine ht_seqR hn (El := [_, _, _, (60, .v (.bool v1)), (61, .v (.bool true)), (62, .ptr 1 3), (63, .v (.int .i64 f.Seq)), (64, .v (.bool v23)), (65, .v (.bool v23)), (4, .v (.bool v23))]) (init := [0, 1, 2]) (fin := [0, 1, 9]) (sps := [⟨[2], [], [3], [(.slot 60)]⟩, ⟨[3], [], [4], [(.slot 61)]⟩, ⟨[4, 0], [], [5], [(.slot 62)]⟩, ⟨[4, 5, 0], [], [6], [(.slot 63)]⟩, ⟨[4, 6], [], [7], [(.slot 64)]⟩, ⟨[4, 7], [], [8], [(.slot 65)]⟩, ⟨[8], [2], [9], [(.slot 4)]⟩]) (es' := [(_, _), (_, _), (4, .v (.bool v23))]) (by kernel_rfl) rfl rfl
                    ⟨st_plain rfl (op_move _ _ _ _ rfl rfl),
                      st_plain rfl (op_move _ _ _ _ (congrArg (fun b => AV.v (Value.bool b)) hg14_1) rfl),
                      st_run 1 61 true rfl rfl rfl (List.Mem.head _) (op_fieldAddr _ _ _ _ 1 0 _ Try.underlying24 rfl sz3 rfl rfl (by decide)),
                      st_run 1 61 true rfl rfl rfl (List.Mem.head _) (op_load _ _ _ _ _ _ Try.underlying3 rfl rfl rfl (Nat.le_of_ble_eq_true rfl) rfl rfl rfl),
                      st_run 1 61 true rfl rfl rfl (List.Mem.head _) (op_call _ _ 25 _ _ rfl Try.call25 rfl (ok_wherryref18_in f.Seq 0 7 _ hv23) rfl rfl),
                      st_plain rfl (op_pick _ _ true _ rfl rfl),
                      st_plain rfl (LOp.drop [_] (op_assign _ _ _ _ rfl rfl)),
                      trivial⟩ ?_
                  exact hl113 _ (Option.some.inj h).symm
                · refine ht_seqR hn (El := [_, _, _, (60, .v (.bool v1)), (61, .v (.bool false)), (62, .v undef), (63, .v undef), (64, .v undef), (65, .v (.bool false)), (4, .v (.bool false))]) (init := [0, 1, 2]) (fin := [0, 1, 9]) (sps := [⟨[2], [], [3], [(.slot 60)]⟩, ⟨[3], [], [4], [(.slot 61)]⟩, ⟨[4], [], [5], [(.slot 62)]⟩, ⟨[4], [], [6], [(.slot 63)]⟩, ⟨[4], [], [7], [(.slot 64)]⟩, ⟨[4], [], [8], [(.slot 65)]⟩, ⟨[8], [2], [9], [(.slot 4)]⟩]) (es' := [(_, _), (_, _), (4, .v (.bool false))]) (by kernel_rfl) rfl rfl
                    ⟨st_plain rfl (op_move _ _ _ _ rfl rfl),
                      st_plain rfl (op_move _ _ _ _ (congrArg (fun b => AV.v (Value.bool b)) hg14_1) rfl),
                      st_skip 1 61 _ true rfl rfl rfl rfl (List.Mem.head _),
                      st_skip 1 61 _ true rfl rfl rfl rfl (List.Mem.head _),
                      st_skip 1 61 _ true rfl rfl rfl rfl (List.Mem.head _),
                      st_plain rfl (op_pick _ _ false _ rfl rfl),
                      st_plain rfl (LOp.drop [_] (op_assign _ _ _ _ rfl rfl)),
                      trivial⟩ ?_
                  exact hl113 _ (Option.some.inj h).symm
            · have h := cond_f hb110 h
              refine ht_seq ?_
              refine ht_seqR hn (El := [_, _, _, _, _, (67, .v (.bool (f.Kind == 5))), (66, .v (.bool (f.Kind == 5)))]) (init := [0, 1, 2, 3, 4]) (fin := [0, 1, 2, 6]) (sps := [⟨[3], [], [5], [(.slot 67)]⟩, ⟨[5], [], [6], [(.slot 66)]⟩]) (es' := [(_, _), (_, _), (_, _), (66, .v (.bool (f.Kind == 5)))]) (by kernel_rfl) rfl rfl
                ⟨st_plain rfl (op_bin _ _ _ _ _ rfl rfl rfl),
                  st_plain rfl (op_assign _ _ _ _ rfl rfl),
                  trivial⟩ ?_
              refine pt_then ?_
              refine ht_cond _ rfl (fun hb115 => ?_) (fun hb115 => ?_)
              · have h := cond_t hb115 h
                refine ht_skip ?_
                refine pt_inb ?_
                refine pt_pick [0, 1, 2] (by kernel_rfl) (es' := [(_, _), (_, _), (_, _)]) rfl ?_
                refine pt_sub (fs := [(1, .box 24 [.v (.int .i64 f.Kind), .v (.int .i64 f.Number), .v (.int .i64 f.Offset), .v (.int .i64 f.Seq), .fl .shr 1 (List.map (Value.int .u8) f.Data)]), (3, .box 24 [.v (.int .i64 f.Kind), .v (.int .i64 f.Number), .v (.int .i64 0), .v (.int .i64 0), .fl .shr 1 (List.map (Value.int .u8) [])]), (4, .v (.bool v1))]) (.same _ (.box _ _ (subs_cons (sub_refl _) (subs_cons (sub_refl _) (subs_cons (sub_refl _) (subs_cons (sub_refl _) (subs_cons (sub_nil_shr 1) (subs_nil)))))) rfl (.same _ .nil))) ?_
                exact hl92 _ (Option.some.inj h).symm
              · have h := cond_f hb115 h
                refine ht_seqR hn (El := [_, _, _, _, (4, .v (.bool false))]) (init := [0, 1, 2, 3]) (fin := [0, 1, 4]) (sps := [⟨[], [2], [4], [(.slot 4)]⟩]) (es' := [(_, _), (_, _), (4, .v (.bool false))]) (by kernel_rfl) rfl rfl
                  ⟨st_plain rfl (LOp.drop [_] (op_assign _ _ _ _ rfl rfl)),
                    trivial⟩ ?_
                refine pt_inb ?_
                refine pt_sub (fs := [(1, .box 24 [.v (.int .i64 f.Kind), .v (.int .i64 f.Number), .v (.int .i64 f.Offset), .v (.int .i64 f.Seq), .fl .shr 1 (List.map (Value.int .u8) f.Data)]), (3, .box 24 [.v (.int .i64 f.Kind), .v (.int .i64 f.Number), .v (.int .i64 0), .v (.int .i64 0), .fl .shr 1 (List.map (Value.int .u8) [])]), (4, .v (.bool false))]) (.same _ (.box _ _ (subs_cons (sub_refl _) (subs_cons (sub_refl _) (subs_cons (sub_refl _) (subs_cons (sub_refl _) (subs_cons (sub_nil_shr 1) (subs_nil)))))) rfl (.same _ .nil))) ?_
                exact hl92 _ (Option.some.inj h).symm
      · intro u96 h hl97 hr98
        refine ht_seq ?_
        refine ht_seqR hn (El := [_, _, _, _, (16, .v (.bool (f.Kind == 1))), (15, .v (.bool (f.Kind == 1)))]) (init := [0, 1, 2, 3]) (fin := [0, 1, 2, 3, 5]) (sps := [⟨[3], [], [4], [(.slot 16)]⟩, ⟨[4], [], [5], [(.slot 15)]⟩]) (es' := [(_, _), (_, _), (_, _), (_, _), (15, .v (.bool (f.Kind == 1)))]) (by kernel_rfl) rfl rfl
          ⟨st_plain rfl (op_bin _ _ _ _ _ rfl rfl rfl),
            st_plain rfl (op_assign _ _ _ _ rfl rfl),
            trivial⟩ ?_
        refine pt_then ?_
        refine ht_cond _ rfl (fun hb99 => ?_) (fun hb99 => ?_)
        · have h := cond_t hb99 h
          refine ht_skip ?_
          exact hl97 _ (Option.some.inj h).symm
        · have h := cond_f hb99 h
          refine ht_seqR hn (El := [_, _, _, _, _, (17, .v (.bool (f.Kind == 2))), (15, .v (.bool (f.Kind == 2)))]) (init := [0, 1, 2, 3, 4]) (fin := [0, 1, 2, 3, 6]) (sps := [⟨[3], [], [5], [(.slot 17)]⟩, ⟨[5], [4], [6], [(.slot 15)]⟩]) (es' := [(_, _), (_, _), (_, _), (_, _), (15, .v (.bool (f.Kind == 2)))]) (by kernel_rfl) rfl rfl
            ⟨st_plain rfl (op_bin _ _ _ _ _ rfl rfl rfl),
              st_plain rfl (LOp.drop [_] (op_assign _ _ _ _ rfl rfl)),
              trivial⟩ ?_
          exact hl97 _ (Option.some.inj h).symm

end Go.Proofs.Ytenfngliiibiiaa
