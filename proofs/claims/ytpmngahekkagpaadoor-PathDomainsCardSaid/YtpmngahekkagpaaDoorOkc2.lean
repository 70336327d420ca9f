/-
  The model's runs are what is told in Lean.
-/
import Derived.Test.YtpmngahekkagpaaDoorProg
import Derived.KernelRfl
import Derived.Test.YtpmngahekkagpaaDoorShelf
import Derived.Test.YtpmngahekkagpaaDoorOkc1
set_option linter.unusedVariables false
set_option linter.unusedSimpArgs false
namespace Go.Proofs.YtpmngahekkagpaaDoor
open Go.Abs Go.Abs.Sh

set_option maxHeartbeats 1000000 in
theorem ok_path_Fold (s : ByteArray) (r : ByteArray) (h : Sh.path_Fold s = some r) : FnOK Tryd.prog 22 [.v (.string s)] (.v (.string r)) := by
  unfold Sh.path_Fold at h
  refine fn_ok Tryd.func22 rfl (Nat.le_of_ble_eq_true rfl) rfl rfl fun g0 hn hio => ?_
  refine ht_seq ?_
  refine ht_seqR hn (El := [_, (2, .v (.string (⟨#[]⟩ : ByteArray)))]) (init := [0]) (fin := [0]) (sps := [⟨[], [], [1], [(.slot 2)]⟩]) (es' := [(_, _)]) (by kernel_rfl) rfl rfl
   ⟨st_plain rfl (op_assign _ _ _ _ rfl rfl),
   trivial⟩ ?_
  refine pt_then ?_
  refine ht_seq ?_
  obtain ⟨v1, hv1, h⟩ := bind_some h
  refine ht_seqR hn (El := [_, (6, .v (.string s)), (7, .mkr 5 (List.map (Value.int .u8) v1)), (3, .mkr 5 (List.map (Value.int .u8) v1))]) (init := [0]) (fin := [3]) (sps := [⟨[0], [], [1], [(.slot 6)]⟩, ⟨[1], [], [2], [(.slot 7)]⟩, ⟨[], [2], [3], [(.slot 3)]⟩]) (es' := [(3, .mkr 5 (List.map (Value.int .u8) v1))]) (by kernel_rfl) rfl rfl
   ⟨st_plain rfl (op_move _ _ _ _ rfl rfl),
   st_plain rfl ((Option.some.inj hv1) ▸ op_str_mk _ _ _ s Tryd.underlying9 Tryd.underlying43 Tryd.underlying5 rfl),
   st_plain rfl (op_assign_take _ _ _ _ rfl),
   trivial⟩ ?_
  refine pt_then ?_
  refine ht_seq ?_
  refine ht_seq ?_
  refine ht_seqR hn (El := [_, (8, .same (.slot 3)), (9, .v (.int .i64 (v1.length : Int))), (10, .v (.int .i64 0))]) (init := [0]) (fin := [0, 1, 2, 3]) (sps := [⟨[0], [], [1], [(.slot 8)]⟩, ⟨[1, 0], [], [2], [(.slot 9)]⟩, ⟨[], [], [3], [(.slot 10)]⟩]) (es' := [(_, _), (8, .same (.slot 3)), (9, .v (.int .i64 (v1.length : Int))), (10, .v (.int .i64 0))]) (by kernel_rfl) rfl rfl
   ⟨st_plain rfl (op_move _ _ _ _ rfl rfl),
   st_plain rfl (op_len_mk _ _ _ Tryd.underlying43 rfl (List.length_map _)),
   st_plain rfl (op_move _ _ _ _ rfl rfl),
   trivial⟩ ?_
  refine pt_then ?_
  refine ht_loopS h (fun ((s40, s41) : (List Int) × Int) => [(3, .mkr 5 (List.map (Value.int .u8) s40)), (8, .same (.slot 3)), (9, .v (.int .i64 (v1.length : Int))), (10, .v (.int .i64 s41))]) (fun (s57 : (List Int)) => [(3, .mkr 5 (List.map (Value.int .u8) s57))]) ?_ ?_
  ·rintro s57 h
   refine pt_then ?_
   refine ht_seq ?_
   obtain ⟨v79, hv79, h⟩ := bind_some h
   refine ht_seqR hn (El := [_, (27, .mkr 5 (List.map (Value.int .u8) s57)), (28, .v (.string v79)), (2, .v (.string v79))]) (init := [0]) (fin := [3]) (sps := [⟨[], [0], [1], [(.slot 27)]⟩, ⟨[1], [], [2], [(.slot 28)]⟩, ⟨[2], [], [3], [(.slot 2)]⟩]) (es' := [(2, .v (.string v79))]) (by kernel_rfl) rfl rfl
    ⟨st_plain rfl (op_move_take _ _ _ _ rfl),
    st_plain rfl ((Option.some.inj hv79) ▸ op_mk_str _ _ _ s57 Tryd.underlying43 Tryd.underlying9 Tryd.underlying5 rfl),
    st_plain rfl (op_assign _ _ _ _ rfl rfl),
    trivial⟩ ?_
   refine pt_then ?_
   refine ht_ret ?_
   obtain rfl := Option.some.inj h
   exact pt_ret hio rfl (.tmp _ _ .nil) rfl rfl
  ·rintro u58 hl59 hr60 ⟨s40, s41⟩ rr63 h ho61
   refine ht_seq ?_
   refine ht_seqR hn (El := [_, _, _, _, (11, .v (.bool ((decide (s41 < (v1.length : Int))))))]) (init := [0, 1, 2, 3]) (fin := [0, 1, 2, 3, 4]) (sps := [⟨[3, 2], [], [4], [(.slot 11)]⟩]) (es' := [(_, _), (_, _), (_, _), (_, _), (11, .v (.bool ((decide (s41 < (v1.length : Int))))))]) (by kernel_rfl) rfl rfl
    ⟨st_plain rfl (op_bin _ _ _ _ _ rfl rfl rfl),
    trivial⟩ ?_
   refine pt_then ?_
   refine ht_seq ?_
   refine ht_cond _ rfl (fun hb64 => ?_) (fun hb64 => ?_)
   ·have h := cond_t hb64 h
    refine ht_skip ?_
    refine pt_then ?_
    refine ht_seq ?_
    refine ht_joinS h (fun (s70 : (List Int)) => [(3, .mkr 5 (List.map (Value.int .u8) s70)), (8, .same (.slot 3)), (9, .v (.int .i64 (v1.length : Int))), (10, .v (.int .i64 s41))]) ?_ ?_
    ·rintro s70 h
     refine pt_then ?_
     obtain ⟨v22, hv22, h⟩ := bind_some h
     refine ht_seqR hn (El := [_, _, _, _, (26, .v (.int .i64 v22)), (10, .v (.int .i64 v22))]) (init := [0, 1, 2, 3]) (fin := [0, 1, 2, 5]) (sps := [⟨[3], [], [4], [(.slot 26)]⟩, ⟨[4], [3], [5], [(.slot 10)]⟩]) (es' := [(_, _), (_, _), (_, _), (10, .v (.int .i64 v22))]) (by kernel_rfl) rfl rfl
      ⟨st_plain rfl (op_bin _ _ _ _ _ rfl rfl (ibind (f := Value.int .i64) (Option.some.inj hv22))),
      st_plain rfl (LOp.drop [_] (op_move _ _ _ _ rfl rfl)),
      trivial⟩ ?_
     exact pt_next _ (Option.some.inj h).symm rfl
    ·intro u71 h hl72 hr73
     refine ht_block ?_
     refine ht_seq ?_
     obtain ⟨v3, hv3, h⟩ := bind_some h
     obtain ⟨v4, hv4, h⟩ := bind_some h
     refine ht_seqR hn (El := [_, _, _, _, _, (12, .v (.int .i64 s41)), (13, .eref (.slot 3) (v3 * 1)), (14, .v (.int .u8 v4)), (4, .v (.int .i64 s41)), (5, .v (.int .u8 v4))]) (init := [0, 1, 2, 3, 4]) (fin := [0, 1, 2, 3, 8, 9]) (sps := [⟨[3], [], [5], [(.slot 12)]⟩, ⟨[1, 0, 3], [], [6], [(.slot 13)]⟩, ⟨[6, 0], [], [7], [(.slot 14)]⟩, ⟨[5], [], [8], [(.slot 4)]⟩, ⟨[7], [], [9], [(.slot 5)]⟩]) (es' := [(_, _), (_, _), (_, _), (_, _), (4, .v (.int .i64 s41)), (5, .v (.int .u8 v4))]) (by kernel_rfl) rfl rfl
      ⟨st_plain rfl (op_move _ _ _ _ rfl rfl),
      st_plain rfl (op_ix_mk _ _ _ _ _ _ _ Tryd.underlying43 sz5 rfl rfl rfl (ix_ok hv3).1 (mk_lt' (ix_ok hv3).2) rfl),
      st_plain rfl (op_load_mk _ _ _ _ _ _ Tryd.underlying5 rfl rfl rfl (map_get hv4)),
      st_plain rfl (op_assign _ _ _ _ rfl rfl),
      st_plain rfl (op_assign _ _ _ _ rfl rfl),
      trivial⟩ ?_
     refine pt_then ?_
     refine ht_seq ?_
     refine ht_joinS h (fun (s74 : Bool) => [(3, .mkr 5 (List.map (Value.int .u8) s40)), (8, .same (.slot 3)), (9, .v (.int .i64 (v1.length : Int))), (10, .v (.int .i64 s41)), (4, .v (.int .i64 s41)), (5, .v (.int .u8 v4)), (20, .v (.bool s74))]) ?_ ?_
     ·rintro s74 h
      refine pt_then ?_
      refine ht_cond _ rfl (fun hb78 => ?_) (fun hb78 => ?_)
      ·have h := cond_t hb78 h
       obtain ⟨v10, hv10, h⟩ := bind_some h
       obtain ⟨v11, hv11, h⟩ := bind_some h
       obtain ⟨v12, hv12, h⟩ := bind_some h
       refine ht_seqR hn (El := [_, _, _, _, _, _, _, (21, .same (.slot 3)), (22, .v (.int .i64 s41)), (23, .v (.int .u8 v4)), (24, .v (.int .u8 v10)), (25, .eref (.slot 3) (v11 * 1)), (3, .mkr 5 (List.map (Value.int .u8) v12))]) (init := [0, 1, 2, 3, 4, 5, 6]) (fin := [12, 1, 2, 3]) (sps := [⟨[0], [], [7], [(.slot 21)]⟩, ⟨[4], [], [8], [(.slot 22)]⟩, ⟨[5], [], [9], [(.slot 23)]⟩, ⟨[9], [], [10], [(.slot 24)]⟩, ⟨[7, 0, 8], [], [11], [(.slot 25)]⟩, ⟨[11, 10], [0], [12], []⟩]) (es' := [(3, .mkr 5 (List.map (Value.int .u8) v12)), (_, _), (_, _), (_, _)]) (by kernel_rfl) rfl rfl
        ⟨st_plain rfl (op_move _ _ _ _ rfl rfl),
        st_plain rfl (op_move _ _ _ _ rfl rfl),
        st_plain rfl (op_move _ _ _ _ rfl rfl),
        st_plain rfl (op_bin _ _ _ _ _ rfl rfl (ibind (f := Value.int .u8) (Option.some.inj hv10))),
        st_plain rfl (op_ix_mk _ _ _ _ _ _ _ Tryd.underlying43 sz5 rfl rfl rfl (ix_ok hv11).1 (mk_lt' (ix_ok hv11).2) rfl),
        st_plain rfl (op_store_mk _ _ _ _ _ _ _ sz5 rfl rfl rfl (mk_lt (ix_ok hv11).2) (mk_set (f := Value.int .u8) (Option.some.inj hv12))),
        trivial⟩ ?_
       refine pt_inb ?_
       exact hl72 _ (Option.some.inj h).symm
      ·have h := cond_f hb78 h
       refine ht_skip ?_
       refine pt_inb ?_
       refine pt_pick [0, 1, 2, 3] (by kernel_rfl) (es' := [(_, _), (_, _), (_, _), (_, _)]) rfl ?_
       exact hl72 _ (Option.some.inj h).symm
     ·intro u75 h hl76 hr77
      refine cond_some h (fun hg5_2 h => ?_) (fun hg5_2 h => ?_)
      ·refine ht_seqR hn (El := [_, _, _, _, _, _, (15, .v (.int .u8 v4)), (16, .v (.bool ((decide (65 ≤ v4))))), (17, .v (.bool true)), (18, .v (.int .u8 v4)), (19, .v (.bool ((decide (v4 ≤ 90))))), (20, .v (.bool ((decide (v4 ≤ 90)))))]) (init := [0, 1, 2, 3, 4, 5]) (fin := [0, 1, 2, 3, 4, 5, 11]) (sps := [⟨[5], [], [6], [(.slot 15)]⟩, ⟨[6], [], [7], [(.slot 16)]⟩, ⟨[7], [], [8], [(.slot 17)]⟩, ⟨[8, 5], [], [9], [(.slot 18)]⟩, ⟨[8, 9], [], [10], [(.slot 19)]⟩, ⟨[8, 10], [], [11], [(.slot 20)]⟩]) (es' := [(_, _), (_, _), (_, _), (_, _), (_, _), (_, _), (20, .v (.bool ((decide (v4 ≤ 90)))))]) (by kernel_rfl) rfl rfl
        ⟨st_plain rfl (op_move _ _ _ _ rfl rfl),
        st_plain rfl (op_bin _ _ _ _ _ rfl rfl rfl),
        st_plain rfl (op_move _ _ _ _ (congrArg (fun b => AV.v (Value.bool b)) hg5_2) rfl),
        st_run 2 17 true rfl rfl rfl (List.Mem.head _) (op_move _ _ _ _ rfl rfl),
        st_run 2 17 true rfl rfl rfl (List.Mem.head _) (op_bin _ _ _ _ _ rfl rfl rfl),
        st_plain rfl (op_pick _ _ true _ rfl rfl),
        trivial⟩ ?_
       exact hl76 _ (Option.some.inj h).symm
      ·refine ht_seqR hn (El := [_, _, _, _, _, _, (15, .v (.int .u8 v4)), (16, .v (.bool ((decide (65 ≤ v4))))), (17, .v (.bool false)), (18, .v undef), (19, .v undef), (20, .v (.bool false))]) (init := [0, 1, 2, 3, 4, 5]) (fin := [0, 1, 2, 3, 4, 5, 11]) (sps := [⟨[5], [], [6], [(.slot 15)]⟩, ⟨[6], [], [7], [(.slot 16)]⟩, ⟨[7], [], [8], [(.slot 17)]⟩, ⟨[8], [], [9], [(.slot 18)]⟩, ⟨[8], [], [10], [(.slot 19)]⟩, ⟨[8], [], [11], [(.slot 20)]⟩]) (es' := [(_, _), (_, _), (_, _), (_, _), (_, _), (_, _), (20, .v (.bool false))]) (by kernel_rfl) rfl rfl
        ⟨st_plain rfl (op_move _ _ _ _ rfl rfl),
        st_plain rfl (op_bin _ _ _ _ _ rfl rfl rfl),
        st_plain rfl (op_move _ _ _ _ (congrArg (fun b => AV.v (Value.bool b)) hg5_2) rfl),
        st_skip 2 17 _ true rfl rfl rfl rfl (List.Mem.head _),
        st_skip 2 17 _ true rfl rfl rfl rfl (List.Mem.head _),
        st_plain rfl (op_pick _ _ false _ rfl rfl),
        trivial⟩ ?_
       exact hl76 _ (Option.some.inj h).symm
   ·have h := cond_f hb64 h
    refine ht_exit ?_
    refine pt_x_then ?_
    refine pt_x_then ?_
    refine pt_x_in ?_
    refine pt_pick [0] (by kernel_rfl) (es' := [(_, _)]) rfl ?_
    exact hl59 _ (ho61 _ (Option.some.inj h).symm).symm

set_option maxHeartbeats 1000000 in
theorem ok_path_At (mx : Int) (p : T_Path) (domain : ByteArray) (r : Bool) (h : Sh.path_At p domain = some r) : FnG Tryd.prog (GL mx) 20 [.agg [.v (.bool p.Null), .v (.string p.Local), .v (.string p.Domain)], .v (.string domain)] (.v (.bool r)) := by
  unfold Sh.path_At at h
  refine fn_okG Tryd.func20 rfl (Nat.le_of_ble_eq_true rfl) rfl rfl fun g0 hn hio => ?_
  refine ht_seq ?_
  refine ht_seqR hn (El := [_, _, _, (2, .box 23 [.v (.bool p.Null), .v (.string p.Local), .v (.string p.Domain)]), (4, .v (.bool false))]) (init := [0, 1, 2]) (fin := [1, 2, 3]) (sps := [⟨[0], [], [3], [(.slot 2)]⟩, ⟨[], [], [4], [(.slot 4)]⟩]) (es' := [(_, _), (_, _), (2, .box 23 [.v (.bool p.Null), .v (.string p.Local), .v (.string p.Domain)])]) (by kernel_rfl) rfl rfl
   ⟨st_plain rfl (op_box _ _ _ _ rfl rfl rfl),
   st_plain rfl (op_assign _ _ _ _ rfl rfl),
   trivial⟩ ?_
  refine pt_then ?_
  refine ht_seq ?_
  refine ht_joinS h (fun (s4 : Bool) => [(21, .glob (GL mx)), (4, .v (.bool s4))]) ?_ ?_
  ·rintro s4 h
   refine pt_then ?_
   refine ht_ret ?_
   refine pt_pick [1] (by kernel_rfl) (es' := [(_, _)]) rfl ?_
   obtain rfl := Option.some.inj h
   exact pt_ret hio rfl (.tmp _ _ .nil) rfl rfl
  ·intro u5 h hl6 hr7
   obtain ⟨v1, hv1, h⟩ := bind_some h
   refine cond_some h (fun hg1_3 h => ?_) (fun hg1_3 h => ?_)
   ·refine cond_some h (fun hg1_8 h => ?_) (fun hg1_8 h => ?_)
    ·obtain ⟨v2, hv2, h⟩ := bind_some h
     obtain ⟨v3, hv3, h⟩ := bind_some h
     refine ht_seqR hn (El := (_ :: _ :: _ :: (5, .agg [.v (.bool p.Null), .v (.string p.Local), .v (.string p.Domain)]) :: (6, .v (.int .i64 v1)) :: (7, .v (.bool (v1 == 0))) :: (8, .v (.bool true)) :: (9, .ptr 2 0) :: (10, .v (.bool p.Null)) :: (11, .v (.bool (!p.Null))) :: (12, .v (.bool (!p.Null))) :: (13, .v (.bool true)) :: (14, .ptr 2 2) :: (15, .v (.string p.Domain)) :: (16, .v (.string v2)) :: (17, .v (.string domain)) :: (18, .v (.string v3)) :: (19, .v (.bool (v2.toList == v3.toList))) :: (20, .v (.bool (v2.toList == v3.toList))) :: (4, .v (.bool (v2.toList == v3.toList))) :: [])) (init := [0, 1, 2]) (fin := [1, 19]) (sps := (⟨[2], [], [3], [(.slot 5)]⟩ :: ⟨[3, 1], [], [4], [(.slot 6)]⟩ :: ⟨[4], [], [5], [(.slot 7)]⟩ :: ⟨[5], [], [6], [(.slot 8)]⟩ :: ⟨[6, 2], [], [7], [(.slot 9)]⟩ :: ⟨[6, 7, 2], [], [8], [(.slot 10)]⟩ :: ⟨[6, 8], [], [9], [(.slot 11)]⟩ :: ⟨[6, 9], [], [10], [(.slot 12)]⟩ :: ⟨[10], [], [11], [(.slot 13)]⟩ :: ⟨[11, 2], [], [12], [(.slot 14)]⟩ :: ⟨[11, 12, 2], [], [13], [(.slot 15)]⟩ :: ⟨[11, 13], [], [14], [(.slot 16)]⟩ :: ⟨[11, 0], [], [15], [(.slot 17)]⟩ :: ⟨[11, 15], [], [16], [(.slot 18)]⟩ :: ⟨[11, 14, 16], [], [17], [(.slot 19)]⟩ :: ⟨[11, 17], [], [18], [(.slot 20)]⟩ :: ⟨[18], [], [19], [(.slot 4)]⟩ :: [])) (es' := [(_, _), (4, .v (.bool (v2.toList == v3.toList)))]) (by kernel_rfl) rfl rfl
      ⟨st_plain rfl (op_loadA _ _ _ _ _ _ _ Tryd.underlying23 rfl sz23 rfl rfl (Nat.le_of_ble_eq_true rfl) rfl rfl),
      st_plain rfl (op_callG _ _ 21 13 _ _ rfl Tryd.call13 rfl rfl (fun _ h => h) (ok_path_Check mx p _ hv1) rfl rfl),
      st_plain rfl (op_bin _ _ _ _ _ rfl rfl rfl),
      st_plain rfl (op_move _ _ _ _ (congrArg (fun b => AV.v (Value.bool b)) hg1_3) rfl),
      st_run 3 8 true rfl rfl rfl (List.Mem.head _) (op_fieldAddr _ _ _ _ 2 0 _ Tryd.underlying23 rfl sz4 rfl rfl (by decide)),
      st_run 3 8 true rfl rfl rfl (List.Mem.head _) (op_load _ _ _ _ _ _ Tryd.underlying4 rfl rfl rfl (Nat.le_of_ble_eq_true rfl) rfl rfl rfl),
      st_run 3 8 true rfl rfl rfl (List.Mem.head _) (op_un _ _ _ _ rfl rfl),
      st_plain rfl (op_pick _ _ true _ rfl rfl),
      st_plain rfl (op_move _ _ _ _ (congrArg (fun b => AV.v (Value.bool b)) hg1_8) rfl),
      st_run 8 13 true rfl rfl rfl (List.Mem.head _) (op_fieldAddr _ _ _ _ 2 0 _ Tryd.underlying23 rfl sz9 rfl rfl (by decide)),
      st_run 8 13 true rfl rfl rfl (List.Mem.head _) (op_load _ _ _ _ _ _ Tryd.underlying9 rfl rfl rfl (Nat.le_of_ble_eq_true rfl) rfl rfl rfl),
      st_run 8 13 true rfl rfl rfl (List.Mem.head _) (op_call _ _ 22 _ _ rfl Tryd.call22 rfl (ok_path_Fold p.Domain _ hv2) rfl rfl),
      st_run 8 13 true rfl rfl rfl (List.Mem.head _) (op_move _ _ _ _ rfl rfl),
      st_run 8 13 true rfl rfl rfl (List.Mem.head _) (op_call _ _ 22 _ _ rfl Tryd.call22 rfl (ok_path_Fold domain _ hv3) rfl rfl),
      st_run 8 13 true rfl rfl rfl (List.Mem.head _) (op_bin _ _ _ _ _ rfl rfl rfl),
      st_plain rfl (op_pick _ _ true _ rfl rfl),
      st_plain rfl (op_assign _ _ _ _ rfl rfl),
      trivial⟩ ?_
     exact hl6 _ (Option.some.inj h).symm
    ·refine ht_seqR hn (El := (_ :: _ :: _ :: (5, .agg [.v (.bool p.Null), .v (.string p.Local), .v (.string p.Domain)]) :: (6, .v (.int .i64 v1)) :: (7, .v (.bool (v1 == 0))) :: (8, .v (.bool true)) :: (9, .ptr 2 0) :: (10, .v (.bool p.Null)) :: (11, .v (.bool (!p.Null))) :: (12, .v (.bool (!p.Null))) :: (13, .v (.bool false)) :: (14, .v undef) :: (15, .v undef) :: (16, .v undef) :: (17, .v undef) :: (18, .v undef) :: (19, .v undef) :: (20, .v (.bool false)) :: (4, .v (.bool false)) :: [])) (init := [0, 1, 2]) (fin := [1, 19]) (sps := (⟨[2], [], [3], [(.slot 5)]⟩ :: ⟨[3, 1], [], [4], [(.slot 6)]⟩ :: ⟨[4], [], [5], [(.slot 7)]⟩ :: ⟨[5], [], [6], [(.slot 8)]⟩ :: ⟨[6, 2], [], [7], [(.slot 9)]⟩ :: ⟨[6, 7, 2], [], [8], [(.slot 10)]⟩ :: ⟨[6, 8], [], [9], [(.slot 11)]⟩ :: ⟨[6, 9], [], [10], [(.slot 12)]⟩ :: ⟨[10], [], [11], [(.slot 13)]⟩ :: ⟨[11], [], [12], [(.slot 14)]⟩ :: ⟨[11], [], [13], [(.slot 15)]⟩ :: ⟨[11], [], [14], [(.slot 16)]⟩ :: ⟨[11], [], [15], [(.slot 17)]⟩ :: ⟨[11], [], [16], [(.slot 18)]⟩ :: ⟨[11], [], [17], [(.slot 19)]⟩ :: ⟨[11], [], [18], [(.slot 20)]⟩ :: ⟨[18], [], [19], [(.slot 4)]⟩ :: [])) (es' := [(_, _), (4, .v (.bool false))]) (by kernel_rfl) rfl rfl
      ⟨st_plain rfl (op_loadA _ _ _ _ _ _ _ Tryd.underlying23 rfl sz23 rfl rfl (Nat.le_of_ble_eq_true rfl) rfl rfl),
      st_plain rfl (op_callG _ _ 21 13 _ _ rfl Tryd.call13 rfl rfl (fun _ h => h) (ok_path_Check mx p _ hv1) rfl rfl),
      st_plain rfl (op_bin _ _ _ _ _ rfl rfl rfl),
      st_plain rfl (op_move _ _ _ _ (congrArg (fun b => AV.v (Value.bool b)) hg1_3) rfl),
      st_run 3 8 true rfl rfl rfl (List.Mem.head _) (op_fieldAddr _ _ _ _ 2 0 _ Tryd.underlying23 rfl sz4 rfl rfl (by decide)),
      st_run 3 8 true rfl rfl rfl (List.Mem.head _) (op_load _ _ _ _ _ _ Tryd.underlying4 rfl rfl rfl (Nat.le_of_ble_eq_true rfl) rfl rfl rfl),
      st_run 3 8 true rfl rfl rfl (List.Mem.head _) (op_un _ _ _ _ rfl rfl),
      st_plain rfl (op_pick _ _ true _ rfl rfl),
      st_plain rfl (op_move _ _ _ _ (congrArg (fun b => AV.v (Value.bool b)) hg1_8) rfl),
      st_skip 8 13 _ true rfl rfl rfl rfl (List.Mem.head _),
      st_skip 8 13 _ true rfl rfl rfl rfl (List.Mem.head _),
      st_skip 8 13 _ true rfl rfl rfl rfl (List.Mem.head _),
      st_skip 8 13 _ true rfl rfl rfl rfl (List.Mem.head _),
      st_skip 8 13 _ true rfl rfl rfl rfl (List.Mem.head _),
      st_skip 8 13 _ true rfl rfl rfl rfl (List.Mem.head _),
      st_plain rfl (op_pick _ _ false _ rfl rfl),
      st_plain rfl (op_assign _ _ _ _ rfl rfl),
      trivial⟩ ?_
     exact hl6 _ (Option.some.inj h).symm
   ·refine ht_seqR hn (El := (_ :: _ :: _ :: (5, .agg [.v (.bool p.Null), .v (.string p.Local), .v (.string p.Domain)]) :: (6, .v (.int .i64 v1)) :: (7, .v (.bool (v1 == 0))) :: (8, .v (.bool false)) :: (9, .v undef) :: (10, .v undef) :: (11, .v undef) :: (12, .v (.bool false)) :: (13, .v (.bool false)) :: (14, .v undef) :: (15, .v undef) :: (16, .v undef) :: (17, .v undef) :: (18, .v undef) :: (19, .v undef) :: (20, .v (.bool false)) :: (4, .v (.bool false)) :: [])) (init := [0, 1, 2]) (fin := [1, 19]) (sps := (⟨[2], [], [3], [(.slot 5)]⟩ :: ⟨[3, 1], [], [4], [(.slot 6)]⟩ :: ⟨[4], [], [5], [(.slot 7)]⟩ :: ⟨[5], [], [6], [(.slot 8)]⟩ :: ⟨[6], [], [7], [(.slot 9)]⟩ :: ⟨[6], [], [8], [(.slot 10)]⟩ :: ⟨[6], [], [9], [(.slot 11)]⟩ :: ⟨[6], [], [10], [(.slot 12)]⟩ :: ⟨[10], [], [11], [(.slot 13)]⟩ :: ⟨[11], [], [12], [(.slot 14)]⟩ :: ⟨[11], [], [13], [(.slot 15)]⟩ :: ⟨[11], [], [14], [(.slot 16)]⟩ :: ⟨[11], [], [15], [(.slot 17)]⟩ :: ⟨[11], [], [16], [(.slot 18)]⟩ :: ⟨[11], [], [17], [(.slot 19)]⟩ :: ⟨[11], [], [18], [(.slot 20)]⟩ :: ⟨[18], [], [19], [(.slot 4)]⟩ :: [])) (es' := [(_, _), (4, .v (.bool false))]) (by kernel_rfl) rfl rfl
     ⟨st_plain rfl (op_loadA _ _ _ _ _ _ _ Tryd.underlying23 rfl sz23 rfl rfl (Nat.le_of_ble_eq_true rfl) rfl rfl),
     st_plain rfl (op_callG _ _ 21 13 _ _ rfl Tryd.call13 rfl rfl (fun _ h => h) (ok_path_Check mx p _ hv1) rfl rfl),
     st_plain rfl (op_bin _ _ _ _ _ rfl rfl rfl),
     st_plain rfl (op_move _ _ _ _ (congrArg (fun b => AV.v (Value.bool b)) hg1_3) rfl),
     st_skip 3 8 _ true rfl rfl rfl rfl (List.Mem.head _),
     st_skip 3 8 _ true rfl rfl rfl rfl (List.Mem.head _),
     st_skip 3 8 _ true rfl rfl rfl rfl (List.Mem.head _),
     st_plain rfl (op_pick _ _ false _ rfl rfl),
     st_plain rfl (op_move _ _ _ _ rfl rfl),
     st_skip 8 13 _ true rfl rfl rfl rfl (List.Mem.head _),
     st_skip 8 13 _ true rfl rfl rfl rfl (List.Mem.head _),
     st_skip 8 13 _ true rfl rfl rfl rfl (List.Mem.head _),
     st_skip 8 13 _ true rfl rfl rfl rfl (List.Mem.head _),
     st_skip 8 13 _ true rfl rfl rfl rfl (List.Mem.head _),
     st_skip 8 13 _ true rfl rfl rfl rfl (List.Mem.head _),
     st_plain rfl (op_pick _ _ false _ rfl rfl),
     st_plain rfl (op_assign _ _ _ _ rfl rfl),
     trivial⟩ ?_
    exact hl6 _ (Option.some.inj h).symm

set_option maxHeartbeats 1000000 in
theorem ok_path_Same (mx : Int) (a : T_Path) (b : T_Path) (r : Bool) (h : Sh.path_Same a b = some r) : FnG Tryd.prog (GL mx) 18 [.agg [.v (.bool a.Null), .v (.string a.Local), .v (.string a.Domain)], .agg [.v (.bool b.Null), .v (.string b.Local), .v (.string b.Domain)]] (.v (.bool r)) := by
  unfold Sh.path_Same at h
  refine fn_okG Tryd.func18 rfl (Nat.le_of_ble_eq_true rfl) rfl rfl fun g0 hn hio => ?_
  refine ht_seq ?_
  refine ht_seqR hn (El := [_, _, _, (2, .box 23 [.v (.bool a.Null), .v (.string a.Local), .v (.string a.Domain)]), (3, .box 23 [.v (.bool b.Null), .v (.string b.Local), .v (.string b.Domain)]), (4, .v (.bool false))]) (init := [0, 1, 2]) (fin := [2, 3, 4]) (sps := [⟨[0], [], [3], [(.slot 2)]⟩, ⟨[1], [], [4], [(.slot 3)]⟩, ⟨[], [], [5], [(.slot 4)]⟩]) (es' := [(_, _), (2, .box 23 [.v (.bool a.Null), .v (.string a.Local), .v (.string a.Domain)]), (3, .box 23 [.v (.bool b.Null), .v (.string b.Local), .v (.string b.Domain)])]) (by kernel_rfl) rfl rfl
   ⟨st_plain rfl (op_box _ _ _ _ rfl rfl rfl),
   st_plain rfl (op_box _ _ _ _ rfl rfl rfl),
   st_plain rfl (op_assign _ _ _ _ rfl rfl),
   trivial⟩ ?_
  refine pt_then ?_
  refine ht_seq ?_
  refine ht_joinS h (fun (s6 : Bool) => [(36, .glob (GL mx)), (4, .v (.bool s6))]) ?_ ?_
  ·rintro s6 h
   refine pt_then ?_
   refine ht_ret ?_
   refine pt_pick [1] (by kernel_rfl) (es' := [(_, _)]) rfl ?_
   obtain rfl := Option.some.inj h
   exact pt_ret hio rfl (.tmp _ _ .nil) rfl rfl
  ·intro u7 h hl8 hr9
   obtain ⟨v1, hv1, h⟩ := bind_some h
   refine cond_some h (fun hg1_3 h => ?_) (fun hg1_3 h => ?_)
   ·obtain ⟨v2, hv2, h⟩ := bind_some h
    refine cond_some h (fun hg1_8 h => ?_) (fun hg1_8 h => ?_)
    ·obtain ⟨v3, hv3, h⟩ := bind_some h
     refine cond_some h (fun hg1_15 h => ?_) (fun hg1_15 h => ?_)
     ·refine cond_some h (fun hg1_22 h => ?_) (fun hg1_22 h => ?_)
      ·obtain ⟨v4, hv4, h⟩ := bind_some h
       obtain ⟨v5, hv5, h⟩ := bind_some h
       refine ht_anyR (by kernel_rfl) hn (El := (_ :: _ :: _ :: (5, .agg [.v (.bool a.Null), .v (.string a.Local), .v (.string a.Domain)]) :: (6, .v (.int .i64 v1)) :: (7, .v (.bool (v1 == 0))) :: (8, .v (.bool true)) :: (9, .agg [.v (.bool b.Null), .v (.string b.Local), .v (.string b.Domain)]) :: (10, .v (.int .i64 v2)) :: (11, .v (.bool (v2 == 0))) :: (12, .v (.bool (v2 == 0))) :: (13, .v (.bool true)) :: (14, .ptr 2 0) :: (15, .v (.bool a.Null)) :: (16, .ptr 3 0) :: (17, .v (.bool b.Null)) :: (18, .v (.bool (a.Null == b.Null))) :: (19, .v (.bool (a.Null == b.Null))) :: (20, .v (.bool true)) :: (21, .ptr 2 1) :: (22, .v (.string a.Local)) :: (23, .ptr 3 1) :: (24, .v (.string b.Local)) :: (25, .v (.bool (a.Local.toList == b.Local.toList))) :: (26, .v (.bool (a.Local.toList == b.Local.toList))) :: (27, .v (.bool true)) :: (28, .ptr 2 2) :: (29, .v (.string a.Domain)) :: (30, .v (.string v4)) :: (31, .ptr 3 2) :: (32, .v (.string b.Domain)) :: (33, .v (.string v5)) :: (34, .v (.bool (v4.toList == v5.toList))) :: (35, .v (.bool (v4.toList == v5.toList))) :: (4, .v (.bool (v4.toList == v5.toList))) :: [])) (init := [0, 1, 2]) (fin := [0, 34]) (sps := (⟨[1], [], [3], [(.slot 5)]⟩ :: ⟨[3, 0], [], [4], [(.slot 6)]⟩ :: ⟨[4], [], [5], [(.slot 7)]⟩ :: ⟨[5], [], [6], [(.slot 8)]⟩ :: ⟨[6, 2], [], [7], [(.slot 9)]⟩ :: ⟨[6, 7, 0], [], [8], [(.slot 10)]⟩ :: ⟨[6, 8], [], [9], [(.slot 11)]⟩ :: ⟨[6, 9], [], [10], [(.slot 12)]⟩ :: ⟨[10], [], [11], [(.slot 13)]⟩ :: ⟨[11, 1], [], [12], [(.slot 14)]⟩ :: ⟨[11, 12, 1], [], [13], [(.slot 15)]⟩ :: ⟨[11, 2], [], [14], [(.slot 16)]⟩ :: ⟨[11, 14, 2], [], [15], [(.slot 17)]⟩ :: ⟨[11, 13, 15], [], [16], [(.slot 18)]⟩ :: ⟨[11, 16], [], [17], [(.slot 19)]⟩ :: ⟨[17], [], [18], [(.slot 20)]⟩ :: ⟨[18, 1], [], [19], [(.slot 21)]⟩ :: ⟨[18, 19, 1], [], [20], [(.slot 22)]⟩ :: ⟨[18, 2], [], [21], [(.slot 23)]⟩ :: ⟨[18, 21, 2], [], [22], [(.slot 24)]⟩ :: ⟨[18, 20, 22], [], [23], [(.slot 25)]⟩ :: ⟨[18, 23], [], [24], [(.slot 26)]⟩ :: ⟨[24], [], [25], [(.slot 27)]⟩ :: ⟨[25, 1], [], [26], [(.slot 28)]⟩ :: ⟨[25, 26, 1], [], [27], [(.slot 29)]⟩ :: ⟨[25, 27], [], [28], [(.slot 30)]⟩ :: ⟨[25, 2], [], [29], [(.slot 31)]⟩ :: ⟨[25, 29, 2], [], [30], [(.slot 32)]⟩ :: ⟨[25, 30], [], [31], [(.slot 33)]⟩ :: ⟨[25, 28, 31], [], [32], [(.slot 34)]⟩ :: ⟨[25, 32], [], [33], [(.slot 35)]⟩ :: ⟨[33], [], [34], [(.slot 4)]⟩ :: [])) (es' := [(_, _), (4, .v (.bool (v4.toList == v5.toList)))]) (by kernel_rfl) rfl rfl
        ⟨st_plain rfl (op_loadA _ _ _ _ _ _ _ Tryd.underlying23 rfl sz23 rfl rfl (Nat.le_of_ble_eq_true rfl) rfl rfl),
        st_plain rfl (op_callG _ _ 36 13 _ _ rfl Tryd.call13 rfl rfl (fun _ h => h) (ok_path_Check mx a _ hv1) rfl rfl),
        st_plain rfl (op_bin _ _ _ _ _ rfl rfl rfl),
        st_plain rfl (op_move _ _ _ _ (congrArg (fun b => AV.v (Value.bool b)) hg1_3) rfl),
        st_run 3 8 true rfl rfl rfl (List.Mem.head _) (op_loadA _ _ _ _ _ _ _ Tryd.underlying23 rfl sz23 rfl rfl (Nat.le_of_ble_eq_true rfl) rfl rfl),
        st_run 3 8 true rfl rfl rfl (List.Mem.head _) (op_callG _ _ 36 13 _ _ rfl Tryd.call13 rfl rfl (fun _ h => h) (ok_path_Check mx b _ hv2) rfl rfl),
        st_run 3 8 true rfl rfl rfl (List.Mem.head _) (op_bin _ _ _ _ _ rfl rfl rfl),
        st_plain rfl (op_pick _ _ true _ rfl rfl),
        st_plain rfl (op_move _ _ _ _ (congrArg (fun b => AV.v (Value.bool b)) hg1_8) rfl),
        st_run 8 13 true rfl rfl rfl (List.Mem.head _) (op_fieldAddr _ _ _ _ 2 0 _ Tryd.underlying23 rfl sz4 rfl rfl (by decide)),
        st_run 8 13 true rfl rfl rfl (List.Mem.head _) (op_load _ _ _ _ _ _ Tryd.underlying4 rfl rfl rfl (Nat.le_of_ble_eq_true rfl) rfl rfl rfl),
        st_run 8 13 true rfl rfl rfl (List.Mem.head _) (op_fieldAddr _ _ _ _ 3 0 _ Tryd.underlying23 rfl sz4 rfl rfl (by decide)),
        st_run 8 13 true rfl rfl rfl (List.Mem.head _) (op_load _ _ _ _ _ _ Tryd.underlying4 rfl rfl rfl (Nat.le_of_ble_eq_true rfl) rfl rfl rfl),
        st_run 8 13 true rfl rfl rfl (List.Mem.head _) (op_beq _ _ _ _ Tryd.underlying4 rfl rfl),
        st_plain rfl (op_pick _ _ true _ rfl rfl),
        st_plain rfl (op_move _ _ _ _ (congrArg (fun b => AV.v (Value.bool b)) hg1_15) rfl),
        st_run 15 20 true rfl rfl rfl (List.Mem.head _) (op_fieldAddr _ _ _ _ 2 0 _ Tryd.underlying23 rfl sz9 rfl rfl (by decide)),
        st_run 15 20 true rfl rfl rfl (List.Mem.head _) (op_load _ _ _ _ _ _ Tryd.underlying9 rfl rfl rfl (Nat.le_of_ble_eq_true rfl) rfl rfl rfl),
        st_run 15 20 true rfl rfl rfl (List.Mem.head _) (op_fieldAddr _ _ _ _ 3 0 _ Tryd.underlying23 rfl sz9 rfl rfl (by decide)),
        st_run 15 20 true rfl rfl rfl (List.Mem.head _) (op_load _ _ _ _ _ _ Tryd.underlying9 rfl rfl rfl (Nat.le_of_ble_eq_true rfl) rfl rfl rfl),
        st_run 15 20 true rfl rfl rfl (List.Mem.head _) (op_bin _ _ _ _ _ rfl rfl rfl),
        st_plain rfl (op_pick _ _ true _ rfl rfl),
        st_plain rfl (op_move _ _ _ _ (congrArg (fun b => AV.v (Value.bool b)) hg1_22) rfl),
        st_run 22 27 true rfl rfl rfl (List.Mem.head _) (op_fieldAddr _ _ _ _ 2 0 _ Tryd.underlying23 rfl sz9 rfl rfl (by decide)),
        st_run 22 27 true rfl rfl rfl (List.Mem.head _) (op_load _ _ _ _ _ _ Tryd.underlying9 rfl rfl rfl (Nat.le_of_ble_eq_true rfl) rfl rfl rfl),
        st_run 22 27 true rfl rfl rfl (List.Mem.head _) (op_call _ _ 22 _ _ rfl Tryd.call22 rfl (ok_path_Fold a.Domain _ hv4) rfl rfl),
        st_run 22 27 true rfl rfl rfl (List.Mem.head _) (op_fieldAddr _ _ _ _ 3 0 _ Tryd.underlying23 rfl sz9 rfl rfl (by decide)),
        st_run 22 27 true rfl rfl rfl (List.Mem.head _) (op_load _ _ _ _ _ _ Tryd.underlying9 rfl rfl rfl (Nat.le_of_ble_eq_true rfl) rfl rfl rfl),
        st_run 22 27 true rfl rfl rfl (List.Mem.head _) (op_call _ _ 22 _ _ rfl Tryd.call22 rfl (ok_path_Fold b.Domain _ hv5) rfl rfl),
        st_run 22 27 true rfl rfl rfl (List.Mem.head _) (op_bin _ _ _ _ _ rfl rfl rfl),
        st_plain rfl (op_pick _ _ true _ rfl rfl),
        st_plain rfl (op_assign _ _ _ _ rfl rfl),
        trivial⟩ ?_
       exact hl8 _ (Option.some.inj h).symm
      ·refine ht_anyR (by kernel_rfl) hn (El := (_ :: _ :: _ :: (5, .agg [.v (.bool a.Null), .v (.string a.Local), .v (.string a.Domain)]) :: (6, .v (.int .i64 v1)) :: (7, .v (.bool (v1 == 0))) :: (8, .v (.bool true)) :: (9, .agg [.v (.bool b.Null), .v (.string b.Local), .v (.string b.Domain)]) :: (10, .v (.int .i64 v2)) :: (11, .v (.bool (v2 == 0))) :: (12, .v (.bool (v2 == 0))) :: (13, .v (.bool true)) :: (14, .ptr 2 0) :: (15, .v (.bool a.Null)) :: (16, .ptr 3 0) :: (17, .v (.bool b.Null)) :: (18, .v (.bool (a.Null == b.Null))) :: (19, .v (.bool (a.Null == b.Null))) :: (20, .v (.bool true)) :: (21, .ptr 2 1) :: (22, .v (.string a.Local)) :: (23, .ptr 3 1) :: (24, .v (.string b.Local)) :: (25, .v (.bool (a.Local.toList == b.Local.toList))) :: (26, .v (.bool (a.Local.toList == b.Local.toList))) :: (27, .v (.bool false)) :: (28, .v undef) :: (29, .v undef) :: (30, .v undef) :: (31, .v undef) :: (32, .v undef) :: (33, .v undef) :: (34, .v undef) :: (35, .v (.bool false)) :: (4, .v (.bool false)) :: [])) (init := [0, 1, 2]) (fin := [0, 34]) (sps := (⟨[1], [], [3], [(.slot 5)]⟩ :: ⟨[3, 0], [], [4], [(.slot 6)]⟩ :: ⟨[4], [], [5], [(.slot 7)]⟩ :: ⟨[5], [], [6], [(.slot 8)]⟩ :: ⟨[6, 2], [], [7], [(.slot 9)]⟩ :: ⟨[6, 7, 0], [], [8], [(.slot 10)]⟩ :: ⟨[6, 8], [], [9], [(.slot 11)]⟩ :: ⟨[6, 9], [], [10], [(.slot 12)]⟩ :: ⟨[10], [], [11], [(.slot 13)]⟩ :: ⟨[11, 1], [], [12], [(.slot 14)]⟩ :: ⟨[11, 12, 1], [], [13], [(.slot 15)]⟩ :: ⟨[11, 2], [], [14], [(.slot 16)]⟩ :: ⟨[11, 14, 2], [], [15], [(.slot 17)]⟩ :: ⟨[11, 13, 15], [], [16], [(.slot 18)]⟩ :: ⟨[11, 16], [], [17], [(.slot 19)]⟩ :: ⟨[17], [], [18], [(.slot 20)]⟩ :: ⟨[18, 1], [], [19], [(.slot 21)]⟩ :: ⟨[18, 19, 1], [], [20], [(.slot 22)]⟩ :: ⟨[18, 2], [], [21], [(.slot 23)]⟩ :: ⟨[18, 21, 2], [], [22], [(.slot 24)]⟩ :: ⟨[18, 20, 22], [], [23], [(.slot 25)]⟩ :: ⟨[18, 23], [], [24], [(.slot 26)]⟩ :: ⟨[24], [], [25], [(.slot 27)]⟩ :: ⟨[25], [], [26], [(.slot 28)]⟩ :: ⟨[25], [], [27], [(.slot 29)]⟩ :: ⟨[25], [], [28], [(.slot 30)]⟩ :: ⟨[25], [], [29], [(.slot 31)]⟩ :: ⟨[25], [], [30], [(.slot 32)]⟩ :: ⟨[25], [], [31], [(.slot 33)]⟩ :: ⟨[25], [], [32], [(.slot 34)]⟩ :: ⟨[25], [], [33], [(.slot 35)]⟩ :: ⟨[33], [], [34], [(.slot 4)]⟩ :: [])) (es' := [(_, _), (4, .v (.bool false))]) (by kernel_rfl) rfl rfl
        ⟨st_plain rfl (op_loadA _ _ _ _ _ _ _ Tryd.underlying23 rfl sz23 rfl rfl (Nat.le_of_ble_eq_true rfl) rfl rfl),
        st_plain rfl (op_callG _ _ 36 13 _ _ rfl Tryd.call13 rfl rfl (fun _ h => h) (ok_path_Check mx a _ hv1) rfl rfl),
        st_plain rfl (op_bin _ _ _ _ _ rfl rfl rfl),
        st_plain rfl (op_move _ _ _ _ (congrArg (fun b => AV.v (Value.bool b)) hg1_3) rfl),
        st_run 3 8 true rfl rfl rfl (List.Mem.head _) (op_loadA _ _ _ _ _ _ _ Tryd.underlying23 rfl sz23 rfl rfl (Nat.le_of_ble_eq_true rfl) rfl rfl),
        st_run 3 8 true rfl rfl rfl (List.Mem.head _) (op_callG _ _ 36 13 _ _ rfl Tryd.call13 rfl rfl (fun _ h => h) (ok_path_Check mx b _ hv2) rfl rfl),
        st_run 3 8 true rfl rfl rfl (List.Mem.head _) (op_bin _ _ _ _ _ rfl rfl rfl),
        st_plain rfl (op_pick _ _ true _ rfl rfl),
        st_plain rfl (op_move _ _ _ _ (congrArg (fun b => AV.v (Value.bool b)) hg1_8) rfl),
        st_run 8 13 true rfl rfl rfl (List.Mem.head _) (op_fieldAddr _ _ _ _ 2 0 _ Tryd.underlying23 rfl sz4 rfl rfl (by decide)),
        st_run 8 13 true rfl rfl rfl (List.Mem.head _) (op_load _ _ _ _ _ _ Tryd.underlying4 rfl rfl rfl (Nat.le_of_ble_eq_true rfl) rfl rfl rfl),
        st_run 8 13 true rfl rfl rfl (List.Mem.head _) (op_fieldAddr _ _ _ _ 3 0 _ Tryd.underlying23 rfl sz4 rfl rfl (by decide)),
        st_run 8 13 true rfl rfl rfl (List.Mem.head _) (op_load _ _ _ _ _ _ Tryd.underlying4 rfl rfl rfl (Nat.le_of_ble_eq_true rfl) rfl rfl rfl),
        st_run 8 13 true rfl rfl rfl (List.Mem.head _) (op_beq _ _ _ _ Tryd.underlying4 rfl rfl),
        st_plain rfl (op_pick _ _ true _ rfl rfl),
        st_plain rfl (op_move _ _ _ _ (congrArg (fun b => AV.v (Value.bool b)) hg1_15) rfl),
        st_run 15 20 true rfl rfl rfl (List.Mem.head _) (op_fieldAddr _ _ _ _ 2 0 _ Tryd.underlying23 rfl sz9 rfl rfl (by decide)),
        st_run 15 20 true rfl rfl rfl (List.Mem.head _) (op_load _ _ _ _ _ _ Tryd.underlying9 rfl rfl rfl (Nat.le_of_ble_eq_true rfl) rfl rfl rfl),
        st_run 15 20 true rfl rfl rfl (List.Mem.head _) (op_fieldAddr _ _ _ _ 3 0 _ Tryd.underlying23 rfl sz9 rfl rfl (by decide)),
        st_run 15 20 true rfl rfl rfl (List.Mem.head _) (op_load _ _ _ _ _ _ Tryd.underlying9 rfl rfl rfl (Nat.le_of_ble_eq_true rfl) rfl rfl rfl),
        st_run 15 20 true rfl rfl rfl (List.Mem.head _) (op_bin _ _ _ _ _ rfl rfl rfl),
        st_plain rfl (op_pick _ _ true _ rfl rfl),
        st_plain rfl (op_move _ _ _ _ (congrArg (fun b => AV.v (Value.bool b)) hg1_22) rfl),
        st_skip 22 27 _ true rfl rfl rfl rfl (List.Mem.head _),
        st_skip 22 27 _ true rfl rfl rfl rfl (List.Mem.head _),
        st_skip 22 27 _ true rfl rfl rfl rfl (List.Mem.head _),
        st_skip 22 27 _ true rfl rfl rfl rfl (List.Mem.head _),
        st_skip 22 27 _ true rfl rfl rfl rfl (List.Mem.head _),
        st_skip 22 27 _ true rfl rfl rfl rfl (List.Mem.head _),
        st_skip 22 27 _ true rfl rfl rfl rfl (List.Mem.head _),
        st_plain rfl (op_pick _ _ false _ rfl rfl),
        st_plain rfl (op_assign _ _ _ _ rfl rfl),
        trivial⟩ ?_
       exact hl8 _ (Option.some.inj h).symm
     ·refine ht_anyR (by kernel_rfl) hn (El := (_ :: _ :: _ :: (5, .agg [.v (.bool a.Null), .v (.string a.Local), .v (.string a.Domain)]) :: (6, .v (.int .i64 v1)) :: (7, .v (.bool (v1 == 0))) :: (8, .v (.bool true)) :: (9, .agg [.v (.bool b.Null), .v (.string b.Local), .v (.string b.Domain)]) :: (10, .v (.int .i64 v2)) :: (11, .v (.bool (v2 == 0))) :: (12, .v (.bool (v2 == 0))) :: (13, .v (.bool true)) :: (14, .ptr 2 0) :: (15, .v (.bool a.Null)) :: (16, .ptr 3 0) :: (17, .v (.bool b.Null)) :: (18, .v (.bool (a.Null == b.Null))) :: (19, .v (.bool (a.Null == b.Null))) :: (20, .v (.bool false)) :: (21, .v undef) :: (22, .v undef) :: (23, .v undef) :: (24, .v undef) :: (25, .v undef) :: (26, .v (.bool false)) :: (27, .v (.bool false)) :: (28, .v undef) :: (29, .v undef) :: (30, .v undef) :: (31, .v undef) :: (32, .v undef) :: (33, .v undef) :: (34, .v undef) :: (35, .v (.bool false)) :: (4, .v (.bool false)) :: [])) (init := [0, 1, 2]) (fin := [0, 34]) (sps := (⟨[1], [], [3], [(.slot 5)]⟩ :: ⟨[3, 0], [], [4], [(.slot 6)]⟩ :: ⟨[4], [], [5], [(.slot 7)]⟩ :: ⟨[5], [], [6], [(.slot 8)]⟩ :: ⟨[6, 2], [], [7], [(.slot 9)]⟩ :: ⟨[6, 7, 0], [], [8], [(.slot 10)]⟩ :: ⟨[6, 8], [], [9], [(.slot 11)]⟩ :: ⟨[6, 9], [], [10], [(.slot 12)]⟩ :: ⟨[10], [], [11], [(.slot 13)]⟩ :: ⟨[11, 1], [], [12], [(.slot 14)]⟩ :: ⟨[11, 12, 1], [], [13], [(.slot 15)]⟩ :: ⟨[11, 2], [], [14], [(.slot 16)]⟩ :: ⟨[11, 14, 2], [], [15], [(.slot 17)]⟩ :: ⟨[11, 13, 15], [], [16], [(.slot 18)]⟩ :: ⟨[11, 16], [], [17], [(.slot 19)]⟩ :: ⟨[17], [], [18], [(.slot 20)]⟩ :: ⟨[18], [], [19], [(.slot 21)]⟩ :: ⟨[18], [], [20], [(.slot 22)]⟩ :: ⟨[18], [], [21], [(.slot 23)]⟩ :: ⟨[18], [], [22], [(.slot 24)]⟩ :: ⟨[18], [], [23], [(.slot 25)]⟩ :: ⟨[18], [], [24], [(.slot 26)]⟩ :: ⟨[24], [], [25], [(.slot 27)]⟩ :: ⟨[25], [], [26], [(.slot 28)]⟩ :: ⟨[25], [], [27], [(.slot 29)]⟩ :: ⟨[25], [], [28], [(.slot 30)]⟩ :: ⟨[25], [], [29], [(.slot 31)]⟩ :: ⟨[25], [], [30], [(.slot 32)]⟩ :: ⟨[25], [], [31], [(.slot 33)]⟩ :: ⟨[25], [], [32], [(.slot 34)]⟩ :: ⟨[25], [], [33], [(.slot 35)]⟩ :: ⟨[33], [], [34], [(.slot 4)]⟩ :: [])) (es' := [(_, _), (4, .v (.bool false))]) (by kernel_rfl) rfl rfl
       ⟨st_plain rfl (op_loadA _ _ _ _ _ _ _ Tryd.underlying23 rfl sz23 rfl rfl (Nat.le_of_ble_eq_true rfl) rfl rfl),
       st_plain rfl (op_callG _ _ 36 13 _ _ rfl Tryd.call13 rfl rfl (fun _ h => h) (ok_path_Check mx a _ hv1) rfl rfl),
       st_plain rfl (op_bin _ _ _ _ _ rfl rfl rfl),
       st_plain rfl (op_move _ _ _ _ (congrArg (fun b => AV.v (Value.bool b)) hg1_3) rfl),
       st_run 3 8 true rfl rfl rfl (List.Mem.head _) (op_loadA _ _ _ _ _ _ _ Tryd.underlying23 rfl sz23 rfl rfl (Nat.le_of_ble_eq_true rfl) rfl rfl),
       st_run 3 8 true rfl rfl rfl (List.Mem.head _) (op_callG _ _ 36 13 _ _ rfl Tryd.call13 rfl rfl (fun _ h => h) (ok_path_Check mx b _ hv2) rfl rfl),
       st_run 3 8 true rfl rfl rfl (List.Mem.head _) (op_bin _ _ _ _ _ rfl rfl rfl),
       st_plain rfl (op_pick _ _ true _ rfl rfl),
       st_plain rfl (op_move _ _ _ _ (congrArg (fun b => AV.v (Value.bool b)) hg1_8) rfl),
       st_run 8 13 true rfl rfl rfl (List.Mem.head _) (op_fieldAddr _ _ _ _ 2 0 _ Tryd.underlying23 rfl sz4 rfl rfl (by decide)),
       st_run 8 13 true rfl rfl rfl (List.Mem.head _) (op_load _ _ _ _ _ _ Tryd.underlying4 rfl rfl rfl (Nat.le_of_ble_eq_true rfl) rfl rfl rfl),
       st_run 8 13 true rfl rfl rfl (List.Mem.head _) (op_fieldAddr _ _ _ _ 3 0 _ Tryd.underlying23 rfl sz4 rfl rfl (by decide)),
       st_run 8 13 true rfl rfl rfl (List.Mem.head _) (op_load _ _ _ _ _ _ Tryd.underlying4 rfl rfl rfl (Nat.le_of_ble_eq_true rfl) rfl rfl rfl),
       st_run 8 13 true rfl rfl rfl (List.Mem.head _) (op_beq _ _ _ _ Tryd.underlying4 rfl rfl),
       st_plain rfl (op_pick _ _ true _ rfl rfl),
       st_plain rfl (op_move _ _ _ _ (congrArg (fun b => AV.v (Value.bool b)) hg1_15) rfl),
       st_skip 15 20 _ true rfl rfl rfl rfl (List.Mem.head _),
       st_skip 15 20 _ true rfl rfl rfl rfl (List.Mem.head _),
       st_skip 15 20 _ true rfl rfl rfl rfl (List.Mem.head _),
       st_skip 15 20 _ true rfl rfl rfl rfl (List.Mem.head _),
       st_skip 15 20 _ true rfl rfl rfl rfl (List.Mem.head _),
       st_plain rfl (op_pick _ _ false _ rfl rfl),
       st_plain rfl (op_move _ _ _ _ rfl rfl),
       st_skip 22 27 _ true rfl rfl rfl rfl (List.Mem.head _),
       st_skip 22 27 _ true rfl rfl rfl rfl (List.Mem.head _),
       st_skip 22 27 _ true rfl rfl rfl rfl (List.Mem.head _),
       st_skip 22 27 _ true rfl rfl rfl rfl (List.Mem.head _),
       st_skip 22 27 _ true rfl rfl rfl rfl (List.Mem.head _),
       st_skip 22 27 _ true rfl rfl rfl rfl (List.Mem.head _),
       st_skip 22 27 _ true rfl rfl rfl rfl (List.Mem.head _),
       st_plain rfl (op_pick _ _ false _ rfl rfl),
       st_plain rfl (op_assign _ _ _ _ rfl rfl),
       trivial⟩ ?_
      exact hl8 _ (Option.some.inj h).symm
    ·refine ht_anyR (by kernel_rfl) hn (El := (_ :: _ :: _ :: (5, .agg [.v (.bool a.Null), .v (.string a.Local), .v (.string a.Domain)]) :: (6, .v (.int .i64 v1)) :: (7, .v (.bool (v1 == 0))) :: (8, .v (.bool true)) :: (9, .agg [.v (.bool b.Null), .v (.string b.Local), .v (.string b.Domain)]) :: (10, .v (.int .i64 v2)) :: (11, .v (.bool (v2 == 0))) :: (12, .v (.bool (v2 == 0))) :: (13, .v (.bool false)) :: (14, .v undef) :: (15, .v undef) :: (16, .v undef) :: (17, .v undef) :: (18, .v undef) :: (19, .v (.bool false)) :: (20, .v (.bool false)) :: (21, .v undef) :: (22, .v undef) :: (23, .v undef) :: (24, .v undef) :: (25, .v undef) :: (26, .v (.bool false)) :: (27, .v (.bool false)) :: (28, .v undef) :: (29, .v undef) :: (30, .v undef) :: (31, .v undef) :: (32, .v undef) :: (33, .v undef) :: (34, .v undef) :: (35, .v (.bool false)) :: (4, .v (.bool false)) :: [])) (init := [0, 1, 2]) (fin := [0, 34]) (sps := (⟨[1], [], [3], [(.slot 5)]⟩ :: ⟨[3, 0], [], [4], [(.slot 6)]⟩ :: ⟨[4], [], [5], [(.slot 7)]⟩ :: ⟨[5], [], [6], [(.slot 8)]⟩ :: ⟨[6, 2], [], [7], [(.slot 9)]⟩ :: ⟨[6, 7, 0], [], [8], [(.slot 10)]⟩ :: ⟨[6, 8], [], [9], [(.slot 11)]⟩ :: ⟨[6, 9], [], [10], [(.slot 12)]⟩ :: ⟨[10], [], [11], [(.slot 13)]⟩ :: ⟨[11], [], [12], [(.slot 14)]⟩ :: ⟨[11], [], [13], [(.slot 15)]⟩ :: ⟨[11], [], [14], [(.slot 16)]⟩ :: ⟨[11], [], [15], [(.slot 17)]⟩ :: ⟨[11], [], [16], [(.slot 18)]⟩ :: ⟨[11], [], [17], [(.slot 19)]⟩ :: ⟨[17], [], [18], [(.slot 20)]⟩ :: ⟨[18], [], [19], [(.slot 21)]⟩ :: ⟨[18], [], [20], [(.slot 22)]⟩ :: ⟨[18], [], [21], [(.slot 23)]⟩ :: ⟨[18], [], [22], [(.slot 24)]⟩ :: ⟨[18], [], [23], [(.slot 25)]⟩ :: ⟨[18], [], [24], [(.slot 26)]⟩ :: ⟨[24], [], [25], [(.slot 27)]⟩ :: ⟨[25], [], [26], [(.slot 28)]⟩ :: ⟨[25], [], [27], [(.slot 29)]⟩ :: ⟨[25], [], [28], [(.slot 30)]⟩ :: ⟨[25], [], [29], [(.slot 31)]⟩ :: ⟨[25], [], [30], [(.slot 32)]⟩ :: ⟨[25], [], [31], [(.slot 33)]⟩ :: ⟨[25], [], [32], [(.slot 34)]⟩ :: ⟨[25], [], [33], [(.slot 35)]⟩ :: ⟨[33], [], [34], [(.slot 4)]⟩ :: [])) (es' := [(_, _), (4, .v (.bool false))]) (by kernel_rfl) rfl rfl
      ⟨st_plain rfl (op_loadA _ _ _ _ _ _ _ Tryd.underlying23 rfl sz23 rfl rfl (Nat.le_of_ble_eq_true rfl) rfl rfl),
      st_plain rfl (op_callG _ _ 36 13 _ _ rfl Tryd.call13 rfl rfl (fun _ h => h) (ok_path_Check mx a _ hv1) rfl rfl),
      st_plain rfl (op_bin _ _ _ _ _ rfl rfl rfl),
      st_plain rfl (op_move _ _ _ _ (congrArg (fun b => AV.v (Value.bool b)) hg1_3) rfl),
      st_run 3 8 true rfl rfl rfl (List.Mem.head _) (op_loadA _ _ _ _ _ _ _ Tryd.underlying23 rfl sz23 rfl rfl (Nat.le_of_ble_eq_true rfl) rfl rfl),
      st_run 3 8 true rfl rfl rfl (List.Mem.head _) (op_callG _ _ 36 13 _ _ rfl Tryd.call13 rfl rfl (fun _ h => h) (ok_path_Check mx b _ hv2) rfl rfl),
      st_run 3 8 true rfl rfl rfl (List.Mem.head _) (op_bin _ _ _ _ _ rfl rfl rfl),
      st_plain rfl (op_pick _ _ true _ rfl rfl),
      st_plain rfl (op_move _ _ _ _ (congrArg (fun b => AV.v (Value.bool b)) hg1_8) rfl),
      st_skip 8 13 _ true rfl rfl rfl rfl (List.Mem.head _),
      st_skip 8 13 _ true rfl rfl rfl rfl (List.Mem.head _),
      st_skip 8 13 _ true rfl rfl rfl rfl (List.Mem.head _),
      st_skip 8 13 _ true rfl rfl rfl rfl (List.Mem.head _),
      st_skip 8 13 _ true rfl rfl rfl rfl (List.Mem.head _),
      st_plain rfl (op_pick _ _ false _ rfl rfl),
      st_plain rfl (op_move _ _ _ _ rfl rfl),
      st_skip 15 20 _ true rfl rfl rfl rfl (List.Mem.head _),
      st_skip 15 20 _ true rfl rfl rfl rfl (List.Mem.head _),
      st_skip 15 20 _ true rfl rfl rfl rfl (List.Mem.head _),
      st_skip 15 20 _ true rfl rfl rfl rfl (List.Mem.head _),
      st_skip 15 20 _ true rfl rfl rfl rfl (List.Mem.head _),
      st_plain rfl (op_pick _ _ false _ rfl rfl),
      st_plain rfl (op_move _ _ _ _ rfl rfl),
      st_skip 22 27 _ true rfl rfl rfl rfl (List.Mem.head _),
      st_skip 22 27 _ true rfl rfl rfl rfl (List.Mem.head _),
      st_skip 22 27 _ true rfl rfl rfl rfl (List.Mem.head _),
      st_skip 22 27 _ true rfl rfl rfl rfl (List.Mem.head _),
      st_skip 22 27 _ true rfl rfl rfl rfl (List.Mem.head _),
      st_skip 22 27 _ true rfl rfl rfl rfl (List.Mem.head _),
      st_skip 22 27 _ true rfl rfl rfl rfl (List.Mem.head _),
      st_plain rfl (op_pick _ _ false _ rfl rfl),
      st_plain rfl (op_assign _ _ _ _ rfl rfl),
      trivial⟩ ?_
     exact hl8 _ (Option.some.inj h).symm
   ·refine ht_anyR (by kernel_rfl) hn (El := (_ :: _ :: _ :: (5, .agg [.v (.bool a.Null), .v (.string a.Local), .v (.string a.Domain)]) :: (6, .v (.int .i64 v1)) :: (7, .v (.bool (v1 == 0))) :: (8, .v (.bool false)) :: (9, .v undef) :: (10, .v undef) :: (11, .v undef) :: (12, .v (.bool false)) :: (13, .v (.bool false)) :: (14, .v undef) :: (15, .v undef) :: (16, .v undef) :: (17, .v undef) :: (18, .v undef) :: (19, .v (.bool false)) :: (20, .v (.bool false)) :: (21, .v undef) :: (22, .v undef) :: (23, .v undef) :: (24, .v undef) :: (25, .v undef) :: (26, .v (.bool false)) :: (27, .v (.bool false)) :: (28, .v undef) :: (29, .v undef) :: (30, .v undef) :: (31, .v undef) :: (32, .v undef) :: (33, .v undef) :: (34, .v undef) :: (35, .v (.bool false)) :: (4, .v (.bool false)) :: [])) (init := [0, 1, 2]) (fin := [0, 34]) (sps := (⟨[1], [], [3], [(.slot 5)]⟩ :: ⟨[3, 0], [], [4], [(.slot 6)]⟩ :: ⟨[4], [], [5], [(.slot 7)]⟩ :: ⟨[5], [], [6], [(.slot 8)]⟩ :: ⟨[6], [], [7], [(.slot 9)]⟩ :: ⟨[6], [], [8], [(.slot 10)]⟩ :: ⟨[6], [], [9], [(.slot 11)]⟩ :: ⟨[6], [], [10], [(.slot 12)]⟩ :: ⟨[10], [], [11], [(.slot 13)]⟩ :: ⟨[11], [], [12], [(.slot 14)]⟩ :: ⟨[11], [], [13], [(.slot 15)]⟩ :: ⟨[11], [], [14], [(.slot 16)]⟩ :: ⟨[11], [], [15], [(.slot 17)]⟩ :: ⟨[11], [], [16], [(.slot 18)]⟩ :: ⟨[11], [], [17], [(.slot 19)]⟩ :: ⟨[17], [], [18], [(.slot 20)]⟩ :: ⟨[18], [], [19], [(.slot 21)]⟩ :: ⟨[18], [], [20], [(.slot 22)]⟩ :: ⟨[18], [], [21], [(.slot 23)]⟩ :: ⟨[18], [], [22], [(.slot 24)]⟩ :: ⟨[18], [], [23], [(.slot 25)]⟩ :: ⟨[18], [], [24], [(.slot 26)]⟩ :: ⟨[24], [], [25], [(.slot 27)]⟩ :: ⟨[25], [], [26], [(.slot 28)]⟩ :: ⟨[25], [], [27], [(.slot 29)]⟩ :: ⟨[25], [], [28], [(.slot 30)]⟩ :: ⟨[25], [], [29], [(.slot 31)]⟩ :: ⟨[25], [], [30], [(.slot 32)]⟩ :: ⟨[25], [], [31], [(.slot 33)]⟩ :: ⟨[25], [], [32], [(.slot 34)]⟩ :: ⟨[25], [], [33], [(.slot 35)]⟩ :: ⟨[33], [], [34], [(.slot 4)]⟩ :: [])) (es' := [(_, _), (4, .v (.bool false))]) (by kernel_rfl) rfl rfl
     ⟨st_plain rfl (op_loadA _ _ _ _ _ _ _ Tryd.underlying23 rfl sz23 rfl rfl (Nat.le_of_ble_eq_true rfl) rfl rfl),
     st_plain rfl (op_callG _ _ 36 13 _ _ rfl Tryd.call13 rfl rfl (fun _ h => h) (ok_path_Check mx a _ hv1) rfl rfl),
     st_plain rfl (op_bin _ _ _ _ _ rfl rfl rfl),
     st_plain rfl (op_move _ _ _ _ (congrArg (fun b => AV.v (Value.bool b)) hg1_3) rfl),
     st_skip 3 8 _ true rfl rfl rfl rfl (List.Mem.head _),
     st_skip 3 8 _ true rfl rfl rfl rfl (List.Mem.head _),
     st_skip 3 8 _ true rfl rfl rfl rfl (List.Mem.head _),
     st_plain rfl (op_pick _ _ false _ rfl rfl),
     st_plain rfl (op_move _ _ _ _ rfl rfl),
     st_skip 8 13 _ true rfl rfl rfl rfl (List.Mem.head _),
     st_skip 8 13 _ true rfl rfl rfl rfl (List.Mem.head _),
     st_skip 8 13 _ true rfl rfl rfl rfl (List.Mem.head _),
     st_skip 8 13 _ true rfl rfl rfl rfl (List.Mem.head _),
     st_skip 8 13 _ true rfl rfl rfl rfl (List.Mem.head _),
     st_plain rfl (op_pick _ _ false _ rfl rfl),
     st_plain rfl (op_move _ _ _ _ rfl rfl),
     st_skip 15 20 _ true rfl rfl rfl rfl (List.Mem.head _),
     st_skip 15 20 _ true rfl rfl rfl rfl (List.Mem.head _),
     st_skip 15 20 _ true rfl rfl rfl rfl (List.Mem.head _),
     st_skip 15 20 _ true rfl rfl rfl rfl (List.Mem.head _),
     st_skip 15 20 _ true rfl rfl rfl rfl (List.Mem.head _),
     st_plain rfl (op_pick _ _ false _ rfl rfl),
     st_plain rfl (op_move _ _ _ _ rfl rfl),
     st_skip 22 27 _ true rfl rfl rfl rfl (List.Mem.head _),
     st_skip 22 27 _ true rfl rfl rfl rfl (List.Mem.head _),
     st_skip 22 27 _ true rfl rfl rfl rfl (List.Mem.head _),
     st_skip 22 27 _ true rfl rfl rfl rfl (List.Mem.head _),
     st_skip 22 27 _ true rfl rfl rfl rfl (List.Mem.head _),
     st_skip 22 27 _ true rfl rfl rfl rfl (List.Mem.head _),
     st_skip 22 27 _ true rfl rfl rfl rfl (List.Mem.head _),
     st_plain rfl (op_pick _ _ false _ rfl rfl),
     st_plain rfl (op_assign _ _ _ _ rfl rfl),
     trivial⟩ ?_
    exact hl8 _ (Option.some.inj h).symm

set_option maxHeartbeats 1000000 in
theorem ok_wherrylaw11_wakes (mx : Int) (r : Bool) (h : Sh.wherrylaw11_wakes  = some r) : FnG Tryd.prog (GL mx) 24 [] (.v (.bool r)) := by
  unfold Sh.wherrylaw11_wakes at h
  refine fn_okG Tryd.func24 rfl (Nat.le_of_ble_eq_true rfl) rfl rfl fun g0 hn hio => ?_
  refine ht_seq ?_
  refine ht_seqR hn (El := [_, (0, .v (.bool false))]) (init := [0]) (fin := [0]) (sps := [⟨[], [], [1], [(.slot 0)]⟩]) (es' := [(_, _)]) (by kernel_rfl) rfl rfl
   ⟨st_plain rfl (op_assign _ _ _ _ rfl rfl),
   trivial⟩ ?_
  refine pt_then ?_
  refine ht_seq ?_
  obtain ⟨v1, hv1, h⟩ := bind_some h
  refine ht_seqR hn (El := [_, (10, .tup [.agg [.v (.bool v1.1.Null), .v (.string v1.1.Local), .v (.string v1.1.Domain)], .v (.int .i64 v1.2)]), (9, .tup [.agg [.v (.bool v1.1.Null), .v (.string v1.1.Local), .v (.string v1.1.Domain)], .v (.int .i64 v1.2)]), (11, .agg [.v (.bool v1.1.Null), .v (.string v1.1.Local), .v (.string v1.1.Domain)]), (12, .v (.int .i64 v1.2)), (1, .box 23 [.v (.bool false), .v (.string (⟨#[]⟩ : ByteArray)), .v (.string (⟨#[]⟩ : ByteArray))]), (1, .box 23 [.v (.bool v1.1.Null), .v (.string v1.1.Local), .v (.string v1.1.Domain)]), (2, .v (.int .i64 v1.2))]) (init := [0]) (fin := [0, 6, 7]) (sps := [⟨[0], [], [1], [(.slot 10)]⟩, ⟨[], [1], [2], [(.slot 9)]⟩, ⟨[2], [], [3], [(.slot 11)]⟩, ⟨[2], [], [4], [(.slot 12)]⟩, ⟨[], [], [5], [(.slot 1)]⟩, ⟨[3], [5], [6], [.cell 1 0, .cell 1 1, .cell 1 2]⟩, ⟨[4], [], [7], [(.slot 2)]⟩]) (es' := [(_, _), (1, .box 23 [.v (.bool v1.1.Null), .v (.string v1.1.Local), .v (.string v1.1.Domain)]), (2, .v (.int .i64 v1.2))]) (by kernel_rfl) rfl rfl
   ⟨st_plain rfl (op_callG _ _ 74 9 _ _ rfl Tryd.call9 rfl rfl (fun _ h => h) (ok_path_Parse mx (⟨#[60, 97, 46, 98, 64, 99, 45, 100, 46, 101, 120, 97, 109, 112, 108, 101, 62]⟩ : ByteArray) _ hv1) rfl rfl),
   st_plain rfl (op_move_take _ _ _ _ rfl),
   st_plain rfl (op_extract_no _ _ _ _ _ _ rfl rfl (Nat.le_of_ble_eq_true rfl) rfl rfl),
   st_plain rfl (op_extract _ _ _ _ _ rfl rfl (Nat.le_of_ble_eq_true rfl) rfl rfl),
   st_plain rfl (op_alloc _ _ zr23),
   st_plain rfl (op_store _ _ _ _ _ _ _ _ sz23 rfl rfl rfl rfl (Nat.le_of_ble_eq_true rfl) rfl rfl),
   st_plain rfl (op_assign _ _ _ _ rfl rfl),
   trivial⟩ ?_
  refine pt_then ?_
  refine ht_seq ?_
  obtain ⟨v2, hv2, h⟩ := bind_some h
  refine ht_seqR hn (El := [_, _, _, (14, .agg [.v (.bool v1.1.Null), .v (.string v1.1.Local), .v (.string v1.1.Domain)]), (15, .tup [.v (.string v2.1), .v (.int .i64 v2.2)]), (13, .tup [.v (.string v2.1), .v (.int .i64 v2.2)]), (16, .v (.string v2.1)), (17, .v (.int .i64 v2.2)), (3, .v (.string v2.1)), (4, .v (.int .i64 v2.2))]) (init := [0, 1, 2]) (fin := [0, 1, 2, 8, 9]) (sps := [⟨[1], [], [3], [(.slot 14)]⟩, ⟨[3, 0], [], [4], [(.slot 15)]⟩, ⟨[], [4], [5], [(.slot 13)]⟩, ⟨[5], [], [6], [(.slot 16)]⟩, ⟨[5], [], [7], [(.slot 17)]⟩, ⟨[6], [], [8], [(.slot 3)]⟩, ⟨[7], [], [9], [(.slot 4)]⟩]) (es' := [(_, _), (_, _), (_, _), (3, .v (.string v2.1)), (4, .v (.int .i64 v2.2))]) (by kernel_rfl) rfl rfl
   ⟨st_plain rfl (op_loadA _ _ _ _ _ _ _ Tryd.underlying23 rfl sz23 rfl rfl (Nat.le_of_ble_eq_true rfl) rfl rfl),
   st_plain rfl (op_callG _ _ 74 11 _ _ rfl Tryd.call11 rfl rfl (fun _ h => h) (ok_path_Text mx (T_Path.mk v1.1.Null v1.1.Local v1.1.Domain) _ hv2) rfl rfl),
   st_plain rfl (op_move_take _ _ _ _ rfl),
   st_plain rfl (op_extract _ _ _ _ _ rfl rfl (Nat.le_of_ble_eq_true rfl) rfl rfl),
   st_plain rfl (op_extract _ _ _ _ _ rfl rfl (Nat.le_of_ble_eq_true rfl) rfl rfl),
   st_plain rfl (op_assign _ _ _ _ rfl rfl),
   st_plain rfl (op_assign _ _ _ _ rfl rfl),
   trivial⟩ ?_
  refine pt_then ?_
  refine ht_seq ?_
  obtain ⟨v3, hv3, h⟩ := bind_some h
  refine ht_seqR hn (El := [_, _, _, _, _, (19, .tup [.agg [.v (.bool v3.1.Null), .v (.string v3.1.Local), .v (.string v3.1.Domain)], .v (.int .i64 v3.2)]), (18, .tup [.agg [.v (.bool v3.1.Null), .v (.string v3.1.Local), .v (.string v3.1.Domain)], .v (.int .i64 v3.2)]), (20, .agg [.v (.bool v3.1.Null), .v (.string v3.1.Local), .v (.string v3.1.Domain)]), (21, .v (.int .i64 v3.2)), (5, .box 23 [.v (.bool false), .v (.string (⟨#[]⟩ : ByteArray)), .v (.string (⟨#[]⟩ : ByteArray))]), (5, .box 23 [.v (.bool v3.1.Null), .v (.string v3.1.Local), .v (.string v3.1.Domain)]), (6, .v (.int .i64 v3.2))]) (init := [0, 1, 2, 3, 4]) (fin := [0, 1, 2, 3, 4, 10, 11]) (sps := [⟨[0], [], [5], [(.slot 19)]⟩, ⟨[], [5], [6], [(.slot 18)]⟩, ⟨[6], [], [7], [(.slot 20)]⟩, ⟨[6], [], [8], [(.slot 21)]⟩, ⟨[], [], [9], [(.slot 5)]⟩, ⟨[7], [9], [10], [.cell 5 0, .cell 5 1, .cell 5 2]⟩, ⟨[8], [], [11], [(.slot 6)]⟩]) (es' := [(_, _), (_, _), (_, _), (_, _), (_, _), (5, .box 23 [.v (.bool v3.1.Null), .v (.string v3.1.Local), .v (.string v3.1.Domain)]), (6, .v (.int .i64 v3.2))]) (by kernel_rfl) rfl rfl
   ⟨st_plain rfl (op_callG _ _ 74 9 _ _ rfl Tryd.call9 rfl rfl (fun _ h => h) (ok_path_Parse mx (⟨#[60, 62]⟩ : ByteArray) _ hv3) rfl rfl),
   st_plain rfl (op_move_take _ _ _ _ rfl),
   st_plain rfl (op_extract_no _ _ _ _ _ _ rfl rfl (Nat.le_of_ble_eq_true rfl) rfl rfl),
   st_plain rfl (op_extract _ _ _ _ _ rfl rfl (Nat.le_of_ble_eq_true rfl) rfl rfl),
   st_plain rfl (op_alloc _ _ zr23),
   st_plain rfl (op_store _ _ _ _ _ _ _ _ sz23 rfl rfl rfl rfl (Nat.le_of_ble_eq_true rfl) rfl rfl),
   st_plain rfl (op_assign _ _ _ _ rfl rfl),
   trivial⟩ ?_
  refine pt_then ?_
  refine ht_seq ?_
  obtain ⟨v4, hv4, h⟩ := bind_some h
  refine ht_seqR hn (El := [_, _, _, _, _, _, _, (23, .tup [.agg [.v (.bool v4.1.Null), .v (.string v4.1.Local), .v (.string v4.1.Domain)], .v (.int .i64 v4.2)]), (22, .tup [.agg [.v (.bool v4.1.Null), .v (.string v4.1.Local), .v (.string v4.1.Domain)], .v (.int .i64 v4.2)]), (24, .agg [.v (.bool v4.1.Null), .v (.string v4.1.Local), .v (.string v4.1.Domain)]), (25, .v (.int .i64 v4.2)), (7, .box 23 [.v (.bool false), .v (.string (⟨#[]⟩ : ByteArray)), .v (.string (⟨#[]⟩ : ByteArray))]), (7, .box 23 [.v (.bool v4.1.Null), .v (.string v4.1.Local), .v (.string v4.1.Domain)]), (8, .v (.int .i64 v4.2))]) (init := [0, 1, 2, 3, 4, 5, 6]) (fin := [0, 1, 2, 3, 4, 5, 6, 13]) (sps := [⟨[0], [], [7], [(.slot 23)]⟩, ⟨[], [7], [8], [(.slot 22)]⟩, ⟨[8], [], [9], [(.slot 24)]⟩, ⟨[8], [], [10], [(.slot 25)]⟩, ⟨[], [], [11], [(.slot 7)]⟩, ⟨[9], [11], [12], [.cell 7 0, .cell 7 1, .cell 7 2]⟩, ⟨[10], [], [13], [(.slot 8)]⟩]) (es' := [(_, _), (_, _), (_, _), (_, _), (_, _), (_, _), (_, _), (8, .v (.int .i64 v4.2))]) (by kernel_rfl) rfl rfl
   ⟨st_plain rfl (op_callG _ _ 74 9 _ _ rfl Tryd.call9 rfl rfl (fun _ h => h) (ok_path_Parse mx (⟨#[60, 97, 46, 46, 98, 64, 99, 62]⟩ : ByteArray) _ hv4) rfl rfl),
   st_plain rfl (op_move_take _ _ _ _ rfl),
   st_plain rfl (op_extract_no _ _ _ _ _ _ rfl rfl (Nat.le_of_ble_eq_true rfl) rfl rfl),
   st_plain rfl (op_extract _ _ _ _ _ rfl rfl (Nat.le_of_ble_eq_true rfl) rfl rfl),
   st_plain rfl (op_alloc _ _ zr23),
   st_plain rfl (op_store _ _ _ _ _ _ _ _ sz23 rfl rfl rfl rfl (Nat.le_of_ble_eq_true rfl) rfl rfl),
   st_plain rfl (op_assign _ _ _ _ rfl rfl),
   trivial⟩ ?_
  refine pt_then ?_
  refine ht_seq ?_
  refine ht_joinS h (fun (s9 : Bool) => [(74, .glob (GL mx)), (0, .v (.bool s9))]) ?_ ?_
  ·rintro s9 h
   refine pt_then ?_
   refine ht_ret ?_
   refine pt_pick [1] (by kernel_rfl) (es' := [(_, _)]) rfl ?_
   obtain rfl := Option.some.inj h
   exact pt_ret hio rfl (.tmp _ _ .nil) rfl rfl
  ·intro u10 h hl11 hr12
   refine cond_some h (fun hg5_2 h => ?_) (fun hg5_2 h => ?_)
   ·refine cond_some h (fun hg5_6 h => ?_) (fun hg5_6 h => ?_)
    ·refine cond_some h (fun hg5_10 h => ?_) (fun hg5_10 h => ?_)
     ·refine cond_some h (fun hg5_14 h => ?_) (fun hg5_14 h => ?_)
      ·refine cond_some h (fun hg5_19 h => ?_) (fun hg5_19 h => ?_)
       ·refine cond_some h (fun hg5_24 h => ?_) (fun hg5_24 h => ?_)
        ·refine cond_some h (fun hg5_28 h => ?_) (fun hg5_28 h => ?_)
         ·refine cond_some h (fun hg5_32 h => ?_) (fun hg5_32 h => ?_)
          ·obtain ⟨v5, hv5, h⟩ := bind_some h
           refine cond_some h (fun hg5_35 h => ?_) (fun hg5_35 h => ?_)
           ·obtain ⟨v6, hv6, h⟩ := bind_some h
            refine cond_some h (fun hg5_39 h => ?_) (fun hg5_39 h => ?_)
            ·obtain ⟨v7, hv7, h⟩ := bind_some h
             refine cond_some h (fun hg5_43 h => ?_) (fun hg5_43 h => ?_)
             ·obtain ⟨v8, hv8, h⟩ := bind_some h
              refine ht_seqR hn (El := (_ :: _ :: _ :: _ :: _ :: _ :: _ :: _ :: (26, .v (.int .i64 v1.2)) :: (27, .v (.bool (v1.2 == 0))) :: (28, .v (.bool true)) :: (29, .v (.int .i64 v2.2)) :: (30, .v (.bool (v2.2 == 0))) :: (31, .v (.bool (v2.2 == 0))) :: (32, .v (.bool true)) :: (33, .v (.int .i64 v3.2)) :: (34, .v (.bool (v3.2 == 0))) :: (35, .v (.bool (v3.2 == 0))) :: (36, .v (.bool true)) :: (37, .v (.int .i64 v4.2)) :: (38, .v (.bool (v4.2 == 5))) :: (39, .v (.bool (v4.2 == 5))) :: (40, .v (.bool true)) :: (41, .ptr 1 1) :: (42, .v (.string v1.1.Local)) :: (43, .v (.bool ((v1.1.Local.toList == (⟨#[97, 46, 98]⟩ : ByteArray).toList)))) :: (44, .v (.bool ((v1.1.Local.toList == (⟨#[97, 46, 98]⟩ : ByteArray).toList)))) :: (45, .v (.bool true)) :: (46, .ptr 1 2) :: (47, .v (.string v1.1.Domain)) :: (48, .v (.bool ((v1.1.Domain.toList == (⟨#[99, 45, 100, 46, 101, 120, 97, 109, 112, 108, 101]⟩ : ByteArray).toList)))) :: (49, .v (.bool ((v1.1.Domain.toList == (⟨#[99, 45, 100, 46, 101, 120, 97, 109, 112, 108, 101]⟩ : ByteArray).toList)))) :: (50, .v (.bool true)) :: (51, .v (.string v2.1)) :: (52, .v (.bool ((v2.1.toList == (⟨#[60, 97, 46, 98, 64, 99, 45, 100, 46, 101, 120, 97, 109, 112, 108, 101, 62]⟩ : ByteArray).toList)))) :: (53, .v (.bool ((v2.1.toList == (⟨#[60, 97, 46, 98, 64, 99, 45, 100, 46, 101, 120, 97, 109, 112, 108, 101, 62]⟩ : ByteArray).toList)))) :: (54, .v (.bool true)) :: (55, .ptr 5 0) :: (56, .v (.bool v3.1.Null)) :: (57, .v (.bool v3.1.Null)) :: (58, .v (.bool true)) :: (59, .v (.bool v5)) :: (60, .v (.bool v5)) :: (61, .v (.bool true)) :: (62, .v (.string v6)) :: (63, .v (.bool ((v6.toList == (⟨#[97, 122]⟩ : ByteArray).toList)))) :: (64, .v (.bool ((v6.toList == (⟨#[97, 122]⟩ : ByteArray).toList)))) :: (65, .v (.bool true)) :: (66, .agg [.v (.bool v1.1.Null), .v (.string v1.1.Local), .v (.string v1.1.Domain)]) :: (67, .v (.bool v7)) :: (68, .v (.bool v7)) :: (69, .v (.bool true)) :: (70, .agg [.v (.bool v1.1.Null), .v (.string v1.1.Local), .v (.string v1.1.Domain)]) :: (71, .agg [.v (.bool v1.1.Null), .v (.string v1.1.Local), .v (.string v1.1.Domain)]) :: (72, .v (.bool v8)) :: (73, .v (.bool v8)) :: (0, .v (.bool v8)) :: [])) (init := [0, 1, 2, 3, 4, 5, 6, 7]) (fin := [0, 56]) (sps := (⟨[2], [], [8], [(.slot 26)]⟩ :: ⟨[8], [], [9], [(.slot 27)]⟩ :: ⟨[9], [], [10], [(.slot 28)]⟩ :: ⟨[10, 4], [], [11], [(.slot 29)]⟩ :: ⟨[10, 11], [], [12], [(.slot 30)]⟩ :: ⟨[10, 12], [], [13], [(.slot 31)]⟩ :: ⟨[13], [], [14], [(.slot 32)]⟩ :: ⟨[14, 6], [], [15], [(.slot 33)]⟩ :: ⟨[14, 15], [], [16], [(.slot 34)]⟩ :: ⟨[14, 16], [], [17], [(.slot 35)]⟩ :: ⟨[17], [], [18], [(.slot 36)]⟩ :: ⟨[18, 7], [], [19], [(.slot 37)]⟩ :: ⟨[18, 19], [], [20], [(.slot 38)]⟩ :: ⟨[18, 20], [], [21], [(.slot 39)]⟩ :: ⟨[21], [], [22], [(.slot 40)]⟩ :: ⟨[22, 1], [], [23], [(.slot 41)]⟩ :: ⟨[22, 23, 1], [], [24], [(.slot 42)]⟩ :: ⟨[22, 24], [], [25], [(.slot 43)]⟩ :: ⟨[22, 25], [], [26], [(.slot 44)]⟩ :: ⟨[26], [], [27], [(.slot 45)]⟩ :: ⟨[27, 1], [], [28], [(.slot 46)]⟩ :: ⟨[27, 28, 1], [], [29], [(.slot 47)]⟩ :: ⟨[27, 29], [], [30], [(.slot 48)]⟩ :: ⟨[27, 30], [], [31], [(.slot 49)]⟩ :: ⟨[31], [], [32], [(.slot 50)]⟩ :: ⟨[32, 3], [], [33], [(.slot 51)]⟩ :: ⟨[32, 33], [], [34], [(.slot 52)]⟩ :: ⟨[32, 34], [], [35], [(.slot 53)]⟩ :: ⟨[35], [], [36], [(.slot 54)]⟩ :: ⟨[36, 5], [], [37], [(.slot 55)]⟩ :: ⟨[36, 37, 5], [], [38], [(.slot 56)]⟩ :: ⟨[36, 38], [], [39], [(.slot 57)]⟩ :: ⟨[39], [], [40], [(.slot 58)]⟩ :: ⟨[40, 0], [], [41], [(.slot 59)]⟩ :: ⟨[40, 41], [], [42], [(.slot 60)]⟩ :: ⟨[42], [], [43], [(.slot 61)]⟩ :: ⟨[43], [], [44], [(.slot 62)]⟩ :: ⟨[43, 44], [], [45], [(.slot 63)]⟩ :: ⟨[43, 45], [], [46], [(.slot 64)]⟩ :: ⟨[46], [], [47], [(.slot 65)]⟩ :: ⟨[47, 1], [], [48], [(.slot 66)]⟩ :: ⟨[47, 48, 0], [], [49], [(.slot 67)]⟩ :: ⟨[47, 49], [], [50], [(.slot 68)]⟩ :: ⟨[50], [], [51], [(.slot 69)]⟩ :: ⟨[51, 1], [], [52], [(.slot 70)]⟩ :: ⟨[51, 1], [], [53], [(.slot 71)]⟩ :: ⟨[51, 52, 53, 0], [], [54], [(.slot 72)]⟩ :: ⟨[51, 54], [], [55], [(.slot 73)]⟩ :: ⟨[55], [], [56], [(.slot 0)]⟩ :: [])) (es' := [(_, _), (0, .v (.bool v8))]) (by kernel_rfl) rfl rfl
               ⟨st_plain rfl (op_move _ _ _ _ rfl rfl),
               st_plain rfl (op_bin _ _ _ _ _ rfl rfl rfl),
               st_plain rfl (op_move _ _ _ _ (congrArg (fun b => AV.v (Value.bool b)) hg5_2) rfl),
               st_run 2 28 true rfl rfl rfl (List.Mem.head _) (op_move _ _ _ _ rfl rfl),
               st_run 2 28 true rfl rfl rfl (List.Mem.head _) (op_bin _ _ _ _ _ rfl rfl rfl),
               st_plain rfl (op_pick _ _ true _ rfl rfl),
               st_plain rfl (op_move _ _ _ _ (congrArg (fun b => AV.v (Value.bool b)) hg5_6) rfl),
               st_run 6 32 true rfl rfl rfl (List.Mem.head _) (op_move _ _ _ _ rfl rfl),
               st_run 6 32 true rfl rfl rfl (List.Mem.head _) (op_bin _ _ _ _ _ rfl rfl rfl),
               st_plain rfl (op_pick _ _ true _ rfl rfl),
               st_plain rfl (op_move _ _ _ _ (congrArg (fun b => AV.v (Value.bool b)) hg5_10) rfl),
               st_run 10 36 true rfl rfl rfl (List.Mem.head _) (op_move _ _ _ _ rfl rfl),
               st_run 10 36 true rfl rfl rfl (List.Mem.head _) (op_bin _ _ _ _ _ rfl rfl rfl),
               st_plain rfl (op_pick _ _ true _ rfl rfl),
               st_plain rfl (op_move _ _ _ _ (congrArg (fun b => AV.v (Value.bool b)) hg5_14) rfl),
               st_run 14 40 true rfl rfl rfl (List.Mem.head _) (op_fieldAddr _ _ _ _ 1 0 _ Tryd.underlying23 rfl sz9 rfl rfl (by decide)),
               st_run 14 40 true rfl rfl rfl (List.Mem.head _) (op_load _ _ _ _ _ _ Tryd.underlying9 rfl rfl rfl (Nat.le_of_ble_eq_true rfl) rfl rfl rfl),
               st_run 14 40 true rfl rfl rfl (List.Mem.head _) (op_bin _ _ _ _ _ rfl rfl rfl),
               st_plain rfl (op_pick _ _ true _ rfl rfl),
               st_plain rfl (op_move _ _ _ _ (congrArg (fun b => AV.v (Value.bool b)) hg5_19) rfl),
               st_run 19 45 true rfl rfl rfl (List.Mem.head _) (op_fieldAddr _ _ _ _ 1 0 _ Tryd.underlying23 rfl sz9 rfl rfl (by decide)),
               st_run 19 45 true rfl rfl rfl (List.Mem.head _) (op_load _ _ _ _ _ _ Tryd.underlying9 rfl rfl rfl (Nat.le_of_ble_eq_true rfl) rfl rfl rfl),
               st_run 19 45 true rfl rfl rfl (List.Mem.head _) (op_bin _ _ _ _ _ rfl rfl rfl),
               st_plain rfl (op_pick _ _ true _ rfl rfl),
               st_plain rfl (op_move _ _ _ _ (congrArg (fun b => AV.v (Value.bool b)) hg5_24) rfl),
               st_run 24 50 true rfl rfl rfl (List.Mem.head _) (op_move _ _ _ _ rfl rfl),
               st_run 24 50 true rfl rfl rfl (List.Mem.head _) (op_bin _ _ _ _ _ rfl rfl rfl),
               st_plain rfl (op_pick _ _ true _ rfl rfl),
               st_plain rfl (op_move _ _ _ _ (congrArg (fun b => AV.v (Value.bool b)) hg5_28) rfl),
               st_run 28 54 true rfl rfl rfl (List.Mem.head _) (op_fieldAddr _ _ _ _ 5 0 _ Tryd.underlying23 rfl sz4 rfl rfl (by decide)),
               st_run 28 54 true rfl rfl rfl (List.Mem.head _) (op_load _ _ _ _ _ _ Tryd.underlying4 rfl rfl rfl (Nat.le_of_ble_eq_true rfl) rfl rfl rfl),
               st_plain rfl (op_pick _ _ true _ rfl rfl),
               st_plain rfl (op_move _ _ _ _ (congrArg (fun b => AV.v (Value.bool b)) hg5_32) rfl),
               st_run 32 58 true rfl rfl rfl (List.Mem.head _) (op_callG _ _ 74 14 _ _ rfl Tryd.call14 rfl rfl (fun _ h => h) (ok_path_Domain mx (⟨#[120]⟩ : ByteArray) _ hv5) rfl rfl),
               st_plain rfl (op_pick _ _ true _ rfl rfl),
               st_plain rfl (op_move _ _ _ _ (congrArg (fun b => AV.v (Value.bool b)) hg5_35) rfl),
               st_run 35 61 true rfl rfl rfl (List.Mem.head _) (op_call _ _ 22 _ _ rfl Tryd.call22 rfl (ok_path_Fold (⟨#[97, 90]⟩ : ByteArray) _ hv6) rfl rfl),
               st_run 35 61 true rfl rfl rfl (List.Mem.head _) (op_bin _ _ _ _ _ rfl rfl rfl),
               st_plain rfl (op_pick _ _ true _ rfl rfl),
               st_plain rfl (op_move _ _ _ _ (congrArg (fun b => AV.v (Value.bool b)) hg5_39) rfl),
               st_run 39 65 true rfl rfl rfl (List.Mem.head _) (op_loadA _ _ _ _ _ _ _ Tryd.underlying23 rfl sz23 rfl rfl (Nat.le_of_ble_eq_true rfl) rfl rfl),
               st_run 39 65 true rfl rfl rfl (List.Mem.head _) (op_callG _ _ 74 20 _ _ rfl Tryd.call20 rfl rfl (fun _ h => h) (ok_path_At mx (T_Path.mk v1.1.Null v1.1.Local v1.1.Domain) (⟨#[67, 45, 68, 46, 69, 88, 65, 77, 80, 76, 69]⟩ : ByteArray) _ hv7) rfl rfl),
               st_plain rfl (op_pick _ _ true _ rfl rfl),
               st_plain rfl (op_move _ _ _ _ (congrArg (fun b => AV.v (Value.bool b)) hg5_43) rfl),
               st_run 43 69 true rfl rfl rfl (List.Mem.head _) (op_loadA _ _ _ _ _ _ _ Tryd.underlying23 rfl sz23 rfl rfl (Nat.le_of_ble_eq_true rfl) rfl rfl),
               st_run 43 69 true rfl rfl rfl (List.Mem.head _) (op_loadA _ _ _ _ _ _ _ Tryd.underlying23 rfl sz23 rfl rfl (Nat.le_of_ble_eq_true rfl) rfl rfl),
               st_run 43 69 true rfl rfl rfl (List.Mem.head _) (op_callG _ _ 74 18 _ _ rfl Tryd.call18 rfl rfl (fun _ h => h) (ok_path_Same mx (T_Path.mk v1.1.Null v1.1.Local v1.1.Domain) (T_Path.mk v1.1.Null v1.1.Local v1.1.Domain) _ hv8) rfl rfl),
               st_plain rfl (op_pick _ _ true _ rfl rfl),
               st_plain rfl (op_assign _ _ _ _ rfl rfl),
               trivial⟩ ?_
              exact hl11 _ (Option.some.inj h).symm
             ·refine ht_seqR hn (El := (_ :: _ :: _ :: _ :: _ :: _ :: _ :: _ :: (26, .v (.int .i64 v1.2)) :: (27, .v (.bool (v1.2 == 0))) :: (28, .v (.bool true)) :: (29, .v (.int .i64 v2.2)) :: (30, .v (.bool (v2.2 == 0))) :: (31, .v (.bool (v2.2 == 0))) :: (32, .v (.bool true)) :: (33, .v (.int .i64 v3.2)) :: (34, .v (.bool (v3.2 == 0))) :: (35, .v (.bool (v3.2 == 0))) :: (36, .v (.bool true)) :: (37, .v (.int .i64 v4.2)) :: (38, .v (.bool (v4.2 == 5))) :: (39, .v (.bool (v4.2 == 5))) :: (40, .v (.bool true)) :: (41, .ptr 1 1) :: (42, .v (.string v1.1.Local)) :: (43, .v (.bool ((v1.1.Local.toList == (⟨#[97, 46, 98]⟩ : ByteArray).toList)))) :: (44, .v (.bool ((v1.1.Local.toList == (⟨#[97, 46, 98]⟩ : ByteArray).toList)))) :: (45, .v (.bool true)) :: (46, .ptr 1 2) :: (47, .v (.string v1.1.Domain)) :: (48, .v (.bool ((v1.1.Domain.toList == (⟨#[99, 45, 100, 46, 101, 120, 97, 109, 112, 108, 101]⟩ : ByteArray).toList)))) :: (49, .v (.bool ((v1.1.Domain.toList == (⟨#[99, 45, 100, 46, 101, 120, 97, 109, 112, 108, 101]⟩ : ByteArray).toList)))) :: (50, .v (.bool true)) :: (51, .v (.string v2.1)) :: (52, .v (.bool ((v2.1.toList == (⟨#[60, 97, 46, 98, 64, 99, 45, 100, 46, 101, 120, 97, 109, 112, 108, 101, 62]⟩ : ByteArray).toList)))) :: (53, .v (.bool ((v2.1.toList == (⟨#[60, 97, 46, 98, 64, 99, 45, 100, 46, 101, 120, 97, 109, 112, 108, 101, 62]⟩ : ByteArray).toList)))) :: (54, .v (.bool true)) :: (55, .ptr 5 0) :: (56, .v (.bool v3.1.Null)) :: (57, .v (.bool v3.1.Null)) :: (58, .v (.bool true)) :: (59, .v (.bool v5)) :: (60, .v (.bool v5)) :: (61, .v (.bool true)) :: (62, .v (.string v6)) :: (63, .v (.bool ((v6.toList == (⟨#[97, 122]⟩ : ByteArray).toList)))) :: (64, .v (.bool ((v6.toList == (⟨#[97, 122]⟩ : ByteArray).toList)))) :: (65, .v (.bool true)) :: (66, .agg [.v (.bool v1.1.Null), .v (.string v1.1.Local), .v (.string v1.1.Domain)]) :: (67, .v (.bool v7)) :: (68, .v (.bool v7)) :: (69, .v (.bool false)) :: (70, .v undef) :: (71, .v undef) :: (72, .v undef) :: (73, .v (.bool false)) :: (0, .v (.bool false)) :: [])) (init := [0, 1, 2, 3, 4, 5, 6, 7]) (fin := [0, 56]) (sps := (⟨[2], [], [8], [(.slot 26)]⟩ :: ⟨[8], [], [9], [(.slot 27)]⟩ :: ⟨[9], [], [10], [(.slot 28)]⟩ :: ⟨[10, 4], [], [11], [(.slot 29)]⟩ :: ⟨[10, 11], [], [12], [(.slot 30)]⟩ :: ⟨[10, 12], [], [13], [(.slot 31)]⟩ :: ⟨[13], [], [14], [(.slot 32)]⟩ :: ⟨[14, 6], [], [15], [(.slot 33)]⟩ :: ⟨[14, 15], [], [16], [(.slot 34)]⟩ :: ⟨[14, 16], [], [17], [(.slot 35)]⟩ :: ⟨[17], [], [18], [(.slot 36)]⟩ :: ⟨[18, 7], [], [19], [(.slot 37)]⟩ :: ⟨[18, 19], [], [20], [(.slot 38)]⟩ :: ⟨[18, 20], [], [21], [(.slot 39)]⟩ :: ⟨[21], [], [22], [(.slot 40)]⟩ :: ⟨[22, 1], [], [23], [(.slot 41)]⟩ :: ⟨[22, 23, 1], [], [24], [(.slot 42)]⟩ :: ⟨[22, 24], [], [25], [(.slot 43)]⟩ :: ⟨[22, 25], [], [26], [(.slot 44)]⟩ :: ⟨[26], [], [27], [(.slot 45)]⟩ :: ⟨[27, 1], [], [28], [(.slot 46)]⟩ :: ⟨[27, 28, 1], [], [29], [(.slot 47)]⟩ :: ⟨[27, 29], [], [30], [(.slot 48)]⟩ :: ⟨[27, 30], [], [31], [(.slot 49)]⟩ :: ⟨[31], [], [32], [(.slot 50)]⟩ :: ⟨[32, 3], [], [33], [(.slot 51)]⟩ :: ⟨[32, 33], [], [34], [(.slot 52)]⟩ :: ⟨[32, 34], [], [35], [(.slot 53)]⟩ :: ⟨[35], [], [36], [(.slot 54)]⟩ :: ⟨[36, 5], [], [37], [(.slot 55)]⟩ :: ⟨[36, 37, 5], [], [38], [(.slot 56)]⟩ :: ⟨[36, 38], [], [39], [(.slot 57)]⟩ :: ⟨[39], [], [40], [(.slot 58)]⟩ :: ⟨[40, 0], [], [41], [(.slot 59)]⟩ :: ⟨[40, 41], [], [42], [(.slot 60)]⟩ :: ⟨[42], [], [43], [(.slot 61)]⟩ :: ⟨[43], [], [44], [(.slot 62)]⟩ :: ⟨[43, 44], [], [45], [(.slot 63)]⟩ :: ⟨[43, 45], [], [46], [(.slot 64)]⟩ :: ⟨[46], [], [47], [(.slot 65)]⟩ :: ⟨[47, 1], [], [48], [(.slot 66)]⟩ :: ⟨[47, 48, 0], [], [49], [(.slot 67)]⟩ :: ⟨[47, 49], [], [50], [(.slot 68)]⟩ :: ⟨[50], [], [51], [(.slot 69)]⟩ :: ⟨[51], [], [52], [(.slot 70)]⟩ :: ⟨[51], [], [53], [(.slot 71)]⟩ :: ⟨[51], [], [54], [(.slot 72)]⟩ :: ⟨[51], [], [55], [(.slot 73)]⟩ :: ⟨[55], [], [56], [(.slot 0)]⟩ :: [])) (es' := [(_, _), (0, .v (.bool false))]) (by kernel_rfl) rfl rfl
               ⟨st_plain rfl (op_move _ _ _ _ rfl rfl),
               st_plain rfl (op_bin _ _ _ _ _ rfl rfl rfl),
               st_plain rfl (op_move _ _ _ _ (congrArg (fun b => AV.v (Value.bool b)) hg5_2) rfl),
               st_run 2 28 true rfl rfl rfl (List.Mem.head _) (op_move _ _ _ _ rfl rfl),
               st_run 2 28 true rfl rfl rfl (List.Mem.head _) (op_bin _ _ _ _ _ rfl rfl rfl),
               st_plain rfl (op_pick _ _ true _ rfl rfl),
               st_plain rfl (op_move _ _ _ _ (congrArg (fun b => AV.v (Value.bool b)) hg5_6) rfl),
               st_run 6 32 true rfl rfl rfl (List.Mem.head _) (op_move _ _ _ _ rfl rfl),
               st_run 6 32 true rfl rfl rfl (List.Mem.head _) (op_bin _ _ _ _ _ rfl rfl rfl),
               st_plain rfl (op_pick _ _ true _ rfl rfl),
               st_plain rfl (op_move _ _ _ _ (congrArg (fun b => AV.v (Value.bool b)) hg5_10) rfl),
               st_run 10 36 true rfl rfl rfl (List.Mem.head _) (op_move _ _ _ _ rfl rfl),
               st_run 10 36 true rfl rfl rfl (List.Mem.head _) (op_bin _ _ _ _ _ rfl rfl rfl),
               st_plain rfl (op_pick _ _ true _ rfl rfl),
               st_plain rfl (op_move _ _ _ _ (congrArg (fun b => AV.v (Value.bool b)) hg5_14) rfl),
               st_run 14 40 true rfl rfl rfl (List.Mem.head _) (op_fieldAddr _ _ _ _ 1 0 _ Tryd.underlying23 rfl sz9 rfl rfl (by decide)),
               st_run 14 40 true rfl rfl rfl (List.Mem.head _) (op_load _ _ _ _ _ _ Tryd.underlying9 rfl rfl rfl (Nat.le_of_ble_eq_true rfl) rfl rfl rfl),
               st_run 14 40 true rfl rfl rfl (List.Mem.head _) (op_bin _ _ _ _ _ rfl rfl rfl),
               st_plain rfl (op_pick _ _ true _ rfl rfl),
               st_plain rfl (op_move _ _ _ _ (congrArg (fun b => AV.v (Value.bool b)) hg5_19) rfl),
               st_run 19 45 true rfl rfl rfl (List.Mem.head _) (op_fieldAddr _ _ _ _ 1 0 _ Tryd.underlying23 rfl sz9 rfl rfl (by decide)),
               st_run 19 45 true rfl rfl rfl (List.Mem.head _) (op_load _ _ _ _ _ _ Tryd.underlying9 rfl rfl rfl (Nat.le_of_ble_eq_true rfl) rfl rfl rfl),
               st_run 19 45 true rfl rfl rfl (List.Mem.head _) (op_bin _ _ _ _ _ rfl rfl rfl),
               st_plain rfl (op_pick _ _ true _ rfl rfl),
               st_plain rfl (op_move _ _ _ _ (congrArg (fun b => AV.v (Value.bool b)) hg5_24) rfl),
               st_run 24 50 true rfl rfl rfl (List.Mem.head _) (op_move _ _ _ _ rfl rfl),
               st_run 24 50 true rfl rfl rfl (List.Mem.head _) (op_bin _ _ _ _ _ rfl rfl rfl),
               st_plain rfl (op_pick _ _ true _ rfl rfl),
               st_plain rfl (op_move _ _ _ _ (congrArg (fun b => AV.v (Value.bool b)) hg5_28) rfl),
               st_run 28 54 true rfl rfl rfl (List.Mem.head _) (op_fieldAddr _ _ _ _ 5 0 _ Tryd.underlying23 rfl sz4 rfl rfl (by decide)),
               st_run 28 54 true rfl rfl rfl (List.Mem.head _) (op_load _ _ _ _ _ _ Tryd.underlying4 rfl rfl rfl (Nat.le_of_ble_eq_true rfl) rfl rfl rfl),
               st_plain rfl (op_pick _ _ true _ rfl rfl),
               st_plain rfl (op_move _ _ _ _ (congrArg (fun b => AV.v (Value.bool b)) hg5_32) rfl),
               st_run 32 58 true rfl rfl rfl (List.Mem.head _) (op_callG _ _ 74 14 _ _ rfl Tryd.call14 rfl rfl (fun _ h => h) (ok_path_Domain mx (⟨#[120]⟩ : ByteArray) _ hv5) rfl rfl),
               st_plain rfl (op_pick _ _ true _ rfl rfl),
               st_plain rfl (op_move _ _ _ _ (congrArg (fun b => AV.v (Value.bool b)) hg5_35) rfl),
               st_run 35 61 true rfl rfl rfl (List.Mem.head _) (op_call _ _ 22 _ _ rfl Tryd.call22 rfl (ok_path_Fold (⟨#[97, 90]⟩ : ByteArray) _ hv6) rfl rfl),
               st_run 35 61 true rfl rfl rfl (List.Mem.head _) (op_bin _ _ _ _ _ rfl rfl rfl),
               st_plain rfl (op_pick _ _ true _ rfl rfl),
               st_plain rfl (op_move _ _ _ _ (congrArg (fun b => AV.v (Value.bool b)) hg5_39) rfl),
               st_run 39 65 true rfl rfl rfl (List.Mem.head _) (op_loadA _ _ _ _ _ _ _ Tryd.underlying23 rfl sz23 rfl rfl (Nat.le_of_ble_eq_true rfl) rfl rfl),
               st_run 39 65 true rfl rfl rfl (List.Mem.head _) (op_callG _ _ 74 20 _ _ rfl Tryd.call20 rfl rfl (fun _ h => h) (ok_path_At mx (T_Path.mk v1.1.Null v1.1.Local v1.1.Domain) (⟨#[67, 45, 68, 46, 69, 88, 65, 77, 80, 76, 69]⟩ : ByteArray) _ hv7) rfl rfl),
               st_plain rfl (op_pick _ _ true _ rfl rfl),
               st_plain rfl (op_move _ _ _ _ (congrArg (fun b => AV.v (Value.bool b)) hg5_43) rfl),
               st_skip 43 69 _ true rfl rfl rfl rfl (List.Mem.head _),
               st_skip 43 69 _ true rfl rfl rfl rfl (List.Mem.head _),
               st_skip 43 69 _ true rfl rfl rfl rfl (List.Mem.head _),
               st_plain rfl (op_pick _ _ false _ rfl rfl),
               st_plain rfl (op_assign _ _ _ _ rfl rfl),
               trivial⟩ ?_
              exact hl11 _ (Option.some.inj h).symm
            ·refine ht_seqR hn (El := (_ :: _ :: _ :: _ :: _ :: _ :: _ :: _ :: (26, .v (.int .i64 v1.2)) :: (27, .v (.bool (v1.2 == 0))) :: (28, .v (.bool true)) :: (29, .v (.int .i64 v2.2)) :: (30, .v (.bool (v2.2 == 0))) :: (31, .v (.bool (v2.2 == 0))) :: (32, .v (.bool true)) :: (33, .v (.int .i64 v3.2)) :: (34, .v (.bool (v3.2 == 0))) :: (35, .v (.bool (v3.2 == 0))) :: (36, .v (.bool true)) :: (37, .v (.int .i64 v4.2)) :: (38, .v (.bool (v4.2 == 5))) :: (39, .v (.bool (v4.2 == 5))) :: (40, .v (.bool true)) :: (41, .ptr 1 1) :: (42, .v (.string v1.1.Local)) :: (43, .v (.bool ((v1.1.Local.toList == (⟨#[97, 46, 98]⟩ : ByteArray).toList)))) :: (44, .v (.bool ((v1.1.Local.toList == (⟨#[97, 46, 98]⟩ : ByteArray).toList)))) :: (45, .v (.bool true)) :: (46, .ptr 1 2) :: (47, .v (.string v1.1.Domain)) :: (48, .v (.bool ((v1.1.Domain.toList == (⟨#[99, 45, 100, 46, 101, 120, 97, 109, 112, 108, 101]⟩ : ByteArray).toList)))) :: (49, .v (.bool ((v1.1.Domain.toList == (⟨#[99, 45, 100, 46, 101, 120, 97, 109, 112, 108, 101]⟩ : ByteArray).toList)))) :: (50, .v (.bool true)) :: (51, .v (.string v2.1)) :: (52, .v (.bool ((v2.1.toList == (⟨#[60, 97, 46, 98, 64, 99, 45, 100, 46, 101, 120, 97, 109, 112, 108, 101, 62]⟩ : ByteArray).toList)))) :: (53, .v (.bool ((v2.1.toList == (⟨#[60, 97, 46, 98, 64, 99, 45, 100, 46, 101, 120, 97, 109, 112, 108, 101, 62]⟩ : ByteArray).toList)))) :: (54, .v (.bool true)) :: (55, .ptr 5 0) :: (56, .v (.bool v3.1.Null)) :: (57, .v (.bool v3.1.Null)) :: (58, .v (.bool true)) :: (59, .v (.bool v5)) :: (60, .v (.bool v5)) :: (61, .v (.bool true)) :: (62, .v (.string v6)) :: (63, .v (.bool ((v6.toList == (⟨#[97, 122]⟩ : ByteArray).toList)))) :: (64, .v (.bool ((v6.toList == (⟨#[97, 122]⟩ : ByteArray).toList)))) :: (65, .v (.bool false)) :: (66, .v undef) :: (67, .v undef) :: (68, .v (.bool false)) :: (69, .v (.bool false)) :: (70, .v undef) :: (71, .v undef) :: (72, .v undef) :: (73, .v (.bool false)) :: (0, .v (.bool false)) :: [])) (init := [0, 1, 2, 3, 4, 5, 6, 7]) (fin := [0, 56]) (sps := (⟨[2], [], [8], [(.slot 26)]⟩ :: ⟨[8], [], [9], [(.slot 27)]⟩ :: ⟨[9], [], [10], [(.slot 28)]⟩ :: ⟨[10, 4], [], [11], [(.slot 29)]⟩ :: ⟨[10, 11], [], [12], [(.slot 30)]⟩ :: ⟨[10, 12], [], [13], [(.slot 31)]⟩ :: ⟨[13], [], [14], [(.slot 32)]⟩ :: ⟨[14, 6], [], [15], [(.slot 33)]⟩ :: ⟨[14, 15], [], [16], [(.slot 34)]⟩ :: ⟨[14, 16], [], [17], [(.slot 35)]⟩ :: ⟨[17], [], [18], [(.slot 36)]⟩ :: ⟨[18, 7], [], [19], [(.slot 37)]⟩ :: ⟨[18, 19], [], [20], [(.slot 38)]⟩ :: ⟨[18, 20], [], [21], [(.slot 39)]⟩ :: ⟨[21], [], [22], [(.slot 40)]⟩ :: ⟨[22, 1], [], [23], [(.slot 41)]⟩ :: ⟨[22, 23, 1], [], [24], [(.slot 42)]⟩ :: ⟨[22, 24], [], [25], [(.slot 43)]⟩ :: ⟨[22, 25], [], [26], [(.slot 44)]⟩ :: ⟨[26], [], [27], [(.slot 45)]⟩ :: ⟨[27, 1], [], [28], [(.slot 46)]⟩ :: ⟨[27, 28, 1], [], [29], [(.slot 47)]⟩ :: ⟨[27, 29], [], [30], [(.slot 48)]⟩ :: ⟨[27, 30], [], [31], [(.slot 49)]⟩ :: ⟨[31], [], [32], [(.slot 50)]⟩ :: ⟨[32, 3], [], [33], [(.slot 51)]⟩ :: ⟨[32, 33], [], [34], [(.slot 52)]⟩ :: ⟨[32, 34], [], [35], [(.slot 53)]⟩ :: ⟨[35], [], [36], [(.slot 54)]⟩ :: ⟨[36, 5], [], [37], [(.slot 55)]⟩ :: ⟨[36, 37, 5], [], [38], [(.slot 56)]⟩ :: ⟨[36, 38], [], [39], [(.slot 57)]⟩ :: ⟨[39], [], [40], [(.slot 58)]⟩ :: ⟨[40, 0], [], [41], [(.slot 59)]⟩ :: ⟨[40, 41], [], [42], [(.slot 60)]⟩ :: ⟨[42], [], [43], [(.slot 61)]⟩ :: ⟨[43], [], [44], [(.slot 62)]⟩ :: ⟨[43, 44], [], [45], [(.slot 63)]⟩ :: ⟨[43, 45], [], [46], [(.slot 64)]⟩ :: ⟨[46], [], [47], [(.slot 65)]⟩ :: ⟨[47], [], [48], [(.slot 66)]⟩ :: ⟨[47], [], [49], [(.slot 67)]⟩ :: ⟨[47], [], [50], [(.slot 68)]⟩ :: ⟨[50], [], [51], [(.slot 69)]⟩ :: ⟨[51], [], [52], [(.slot 70)]⟩ :: ⟨[51], [], [53], [(.slot 71)]⟩ :: ⟨[51], [], [54], [(.slot 72)]⟩ :: ⟨[51], [], [55], [(.slot 73)]⟩ :: ⟨[55], [], [56], [(.slot 0)]⟩ :: [])) (es' := [(_, _), (0, .v (.bool false))]) (by kernel_rfl) rfl rfl
              ⟨st_plain rfl (op_move _ _ _ _ rfl rfl),
              st_plain rfl (op_bin _ _ _ _ _ rfl rfl rfl),
              st_plain rfl (op_move _ _ _ _ (congrArg (fun b => AV.v (Value.bool b)) hg5_2) rfl),
              st_run 2 28 true rfl rfl rfl (List.Mem.head _) (op_move _ _ _ _ rfl rfl),
              st_run 2 28 true rfl rfl rfl (List.Mem.head _) (op_bin _ _ _ _ _ rfl rfl rfl),
              st_plain rfl (op_pick _ _ true _ rfl rfl),
              st_plain rfl (op_move _ _ _ _ (congrArg (fun b => AV.v (Value.bool b)) hg5_6) rfl),
              st_run 6 32 true rfl rfl rfl (List.Mem.head _) (op_move _ _ _ _ rfl rfl),
              st_run 6 32 true rfl rfl rfl (List.Mem.head _) (op_bin _ _ _ _ _ rfl rfl rfl),
              st_plain rfl (op_pick _ _ true _ rfl rfl),
              st_plain rfl (op_move _ _ _ _ (congrArg (fun b => AV.v (Value.bool b)) hg5_10) rfl),
              st_run 10 36 true rfl rfl rfl (List.Mem.head _) (op_move _ _ _ _ rfl rfl),
              st_run 10 36 true rfl rfl rfl (List.Mem.head _) (op_bin _ _ _ _ _ rfl rfl rfl),
              st_plain rfl (op_pick _ _ true _ rfl rfl),
              st_plain rfl (op_move _ _ _ _ (congrArg (fun b => AV.v (Value.bool b)) hg5_14) rfl),
              st_run 14 40 true rfl rfl rfl (List.Mem.head _) (op_fieldAddr _ _ _ _ 1 0 _ Tryd.underlying23 rfl sz9 rfl rfl (by decide)),
              st_run 14 40 true rfl rfl rfl (List.Mem.head _) (op_load _ _ _ _ _ _ Tryd.underlying9 rfl rfl rfl (Nat.le_of_ble_eq_true rfl) rfl rfl rfl),
              st_run 14 40 true rfl rfl rfl (List.Mem.head _) (op_bin _ _ _ _ _ rfl rfl rfl),
              st_plain rfl (op_pick _ _ true _ rfl rfl),
              st_plain rfl (op_move _ _ _ _ (congrArg (fun b => AV.v (Value.bool b)) hg5_19) rfl),
              st_run 19 45 true rfl rfl rfl (List.Mem.head _) (op_fieldAddr _ _ _ _ 1 0 _ Tryd.underlying23 rfl sz9 rfl rfl (by decide)),
              st_run 19 45 true rfl rfl rfl (List.Mem.head _) (op_load _ _ _ _ _ _ Tryd.underlying9 rfl rfl rfl (Nat.le_of_ble_eq_true rfl) rfl rfl rfl),
              st_run 19 45 true rfl rfl rfl (List.Mem.head _) (op_bin _ _ _ _ _ rfl rfl rfl),
              st_plain rfl (op_pick _ _ true _ rfl rfl),
              st_plain rfl (op_move _ _ _ _ (congrArg (fun b => AV.v (Value.bool b)) hg5_24) rfl),
              st_run 24 50 true rfl rfl rfl (List.Mem.head _) (op_move _ _ _ _ rfl rfl),
              st_run 24 50 true rfl rfl rfl (List.Mem.head _) (op_bin _ _ _ _ _ rfl rfl rfl),
              st_plain rfl (op_pick _ _ true _ rfl rfl),
              st_plain rfl (op_move _ _ _ _ (congrArg (fun b => AV.v (Value.bool b)) hg5_28) rfl),
              st_run 28 54 true rfl rfl rfl (List.Mem.head _) (op_fieldAddr _ _ _ _ 5 0 _ Tryd.underlying23 rfl sz4 rfl rfl (by decide)),
              st_run 28 54 true rfl rfl rfl (List.Mem.head _) (op_load _ _ _ _ _ _ Tryd.underlying4 rfl rfl rfl (Nat.le_of_ble_eq_true rfl) rfl rfl rfl),
              st_plain rfl (op_pick _ _ true _ rfl rfl),
              st_plain rfl (op_move _ _ _ _ (congrArg (fun b => AV.v (Value.bool b)) hg5_32) rfl),
              st_run 32 58 true rfl rfl rfl (List.Mem.head _) (op_callG _ _ 74 14 _ _ rfl Tryd.call14 rfl rfl (fun _ h => h) (ok_path_Domain mx (⟨#[120]⟩ : ByteArray) _ hv5) rfl rfl),
              st_plain rfl (op_pick _ _ true _ rfl rfl),
              st_plain rfl (op_move _ _ _ _ (congrArg (fun b => AV.v (Value.bool b)) hg5_35) rfl),
              st_run 35 61 true rfl rfl rfl (List.Mem.head _) (op_call _ _ 22 _ _ rfl Tryd.call22 rfl (ok_path_Fold (⟨#[97, 90]⟩ : ByteArray) _ hv6) rfl rfl),
              st_run 35 61 true rfl rfl rfl (List.Mem.head _) (op_bin _ _ _ _ _ rfl rfl rfl),
              st_plain rfl (op_pick _ _ true _ rfl rfl),
              st_plain rfl (op_move _ _ _ _ (congrArg (fun b => AV.v (Value.bool b)) hg5_39) rfl),
              st_skip 39 65 _ true rfl rfl rfl rfl (List.Mem.head _),
              st_skip 39 65 _ true rfl rfl rfl rfl (List.Mem.head _),
              st_plain rfl (op_pick _ _ false _ rfl rfl),
              st_plain rfl (op_move _ _ _ _ rfl rfl),
              st_skip 43 69 _ true rfl rfl rfl rfl (List.Mem.head _),
              st_skip 43 69 _ true rfl rfl rfl rfl (List.Mem.head _),
              st_skip 43 69 _ true rfl rfl rfl rfl (List.Mem.head _),
              st_plain rfl (op_pick _ _ false _ rfl rfl),
              st_plain rfl (op_assign _ _ _ _ rfl rfl),
              trivial⟩ ?_
             exact hl11 _ (Option.some.inj h).symm
           ·refine ht_seqR hn (El := (_ :: _ :: _ :: _ :: _ :: _ :: _ :: _ :: (26, .v (.int .i64 v1.2)) :: (27, .v (.bool (v1.2 == 0))) :: (28, .v (.bool true)) :: (29, .v (.int .i64 v2.2)) :: (30, .v (.bool (v2.2 == 0))) :: (31, .v (.bool (v2.2 == 0))) :: (32, .v (.bool true)) :: (33, .v (.int .i64 v3.2)) :: (34, .v (.bool (v3.2 == 0))) :: (35, .v (.bool (v3.2 == 0))) :: (36, .v (.bool true)) :: (37, .v (.int .i64 v4.2)) :: (38, .v (.bool (v4.2 == 5))) :: (39, .v (.bool (v4.2 == 5))) :: (40, .v (.bool true)) :: (41, .ptr 1 1) :: (42, .v (.string v1.1.Local)) :: (43, .v (.bool ((v1.1.Local.toList == (⟨#[97, 46, 98]⟩ : ByteArray).toList)))) :: (44, .v (.bool ((v1.1.Local.toList == (⟨#[97, 46, 98]⟩ : ByteArray).toList)))) :: (45, .v (.bool true)) :: (46, .ptr 1 2) :: (47, .v (.string v1.1.Domain)) :: (48, .v (.bool ((v1.1.Domain.toList == (⟨#[99, 45, 100, 46, 101, 120, 97, 109, 112, 108, 101]⟩ : ByteArray).toList)))) :: (49, .v (.bool ((v1.1.Domain.toList == (⟨#[99, 45, 100, 46, 101, 120, 97, 109, 112, 108, 101]⟩ : ByteArray).toList)))) :: (50, .v (.bool true)) :: (51, .v (.string v2.1)) :: (52, .v (.bool ((v2.1.toList == (⟨#[60, 97, 46, 98, 64, 99, 45, 100, 46, 101, 120, 97, 109, 112, 108, 101, 62]⟩ : ByteArray).toList)))) :: (53, .v (.bool ((v2.1.toList == (⟨#[60, 97, 46, 98, 64, 99, 45, 100, 46, 101, 120, 97, 109, 112, 108, 101, 62]⟩ : ByteArray).toList)))) :: (54, .v (.bool true)) :: (55, .ptr 5 0) :: (56, .v (.bool v3.1.Null)) :: (57, .v (.bool v3.1.Null)) :: (58, .v (.bool true)) :: (59, .v (.bool v5)) :: (60, .v (.bool v5)) :: (61, .v (.bool false)) :: (62, .v undef) :: (63, .v undef) :: (64, .v (.bool false)) :: (65, .v (.bool false)) :: (66, .v undef) :: (67, .v undef) :: (68, .v (.bool false)) :: (69, .v (.bool false)) :: (70, .v undef) :: (71, .v undef) :: (72, .v undef) :: (73, .v (.bool false)) :: (0, .v (.bool false)) :: [])) (init := [0, 1, 2, 3, 4, 5, 6, 7]) (fin := [0, 56]) (sps := (⟨[2], [], [8], [(.slot 26)]⟩ :: ⟨[8], [], [9], [(.slot 27)]⟩ :: ⟨[9], [], [10], [(.slot 28)]⟩ :: ⟨[10, 4], [], [11], [(.slot 29)]⟩ :: ⟨[10, 11], [], [12], [(.slot 30)]⟩ :: ⟨[10, 12], [], [13], [(.slot 31)]⟩ :: ⟨[13], [], [14], [(.slot 32)]⟩ :: ⟨[14, 6], [], [15], [(.slot 33)]⟩ :: ⟨[14, 15], [], [16], [(.slot 34)]⟩ :: ⟨[14, 16], [], [17], [(.slot 35)]⟩ :: ⟨[17], [], [18], [(.slot 36)]⟩ :: ⟨[18, 7], [], [19], [(.slot 37)]⟩ :: ⟨[18, 19], [], [20], [(.slot 38)]⟩ :: ⟨[18, 20], [], [21], [(.slot 39)]⟩ :: ⟨[21], [], [22], [(.slot 40)]⟩ :: ⟨[22, 1], [], [23], [(.slot 41)]⟩ :: ⟨[22, 23, 1], [], [24], [(.slot 42)]⟩ :: ⟨[22, 24], [], [25], [(.slot 43)]⟩ :: ⟨[22, 25], [], [26], [(.slot 44)]⟩ :: ⟨[26], [], [27], [(.slot 45)]⟩ :: ⟨[27, 1], [], [28], [(.slot 46)]⟩ :: ⟨[27, 28, 1], [], [29], [(.slot 47)]⟩ :: ⟨[27, 29], [], [30], [(.slot 48)]⟩ :: ⟨[27, 30], [], [31], [(.slot 49)]⟩ :: ⟨[31], [], [32], [(.slot 50)]⟩ :: ⟨[32, 3], [], [33], [(.slot 51)]⟩ :: ⟨[32, 33], [], [34], [(.slot 52)]⟩ :: ⟨[32, 34], [], [35], [(.slot 53)]⟩ :: ⟨[35], [], [36], [(.slot 54)]⟩ :: ⟨[36, 5], [], [37], [(.slot 55)]⟩ :: ⟨[36, 37, 5], [], [38], [(.slot 56)]⟩ :: ⟨[36, 38], [], [39], [(.slot 57)]⟩ :: ⟨[39], [], [40], [(.slot 58)]⟩ :: ⟨[40, 0], [], [41], [(.slot 59)]⟩ :: ⟨[40, 41], [], [42], [(.slot 60)]⟩ :: ⟨[42], [], [43], [(.slot 61)]⟩ :: ⟨[43], [], [44], [(.slot 62)]⟩ :: ⟨[43], [], [45], [(.slot 63)]⟩ :: ⟨[43], [], [46], [(.slot 64)]⟩ :: ⟨[46], [], [47], [(.slot 65)]⟩ :: ⟨[47], [], [48], [(.slot 66)]⟩ :: ⟨[47], [], [49], [(.slot 67)]⟩ :: ⟨[47], [], [50], [(.slot 68)]⟩ :: ⟨[50], [], [51], [(.slot 69)]⟩ :: ⟨[51], [], [52], [(.slot 70)]⟩ :: ⟨[51], [], [53], [(.slot 71)]⟩ :: ⟨[51], [], [54], [(.slot 72)]⟩ :: ⟨[51], [], [55], [(.slot 73)]⟩ :: ⟨[55], [], [56], [(.slot 0)]⟩ :: [])) (es' := [(_, _), (0, .v (.bool false))]) (by kernel_rfl) rfl rfl
             ⟨st_plain rfl (op_move _ _ _ _ rfl rfl),
             st_plain rfl (op_bin _ _ _ _ _ rfl rfl rfl),
             st_plain rfl (op_move _ _ _ _ (congrArg (fun b => AV.v (Value.bool b)) hg5_2) rfl),
             st_run 2 28 true rfl rfl rfl (List.Mem.head _) (op_move _ _ _ _ rfl rfl),
             st_run 2 28 true rfl rfl rfl (List.Mem.head _) (op_bin _ _ _ _ _ rfl rfl rfl),
             st_plain rfl (op_pick _ _ true _ rfl rfl),
             st_plain rfl (op_move _ _ _ _ (congrArg (fun b => AV.v (Value.bool b)) hg5_6) rfl),
             st_run 6 32 true rfl rfl rfl (List.Mem.head _) (op_move _ _ _ _ rfl rfl),
             st_run 6 32 true rfl rfl rfl (List.Mem.head _) (op_bin _ _ _ _ _ rfl rfl rfl),
             st_plain rfl (op_pick _ _ true _ rfl rfl),
             st_plain rfl (op_move _ _ _ _ (congrArg (fun b => AV.v (Value.bool b)) hg5_10) rfl),
             st_run 10 36 true rfl rfl rfl (List.Mem.head _) (op_move _ _ _ _ rfl rfl),
             st_run 10 36 true rfl rfl rfl (List.Mem.head _) (op_bin _ _ _ _ _ rfl rfl rfl),
             st_plain rfl (op_pick _ _ true _ rfl rfl),
             st_plain rfl (op_move _ _ _ _ (congrArg (fun b => AV.v (Value.bool b)) hg5_14) rfl),
             st_run 14 40 true rfl rfl rfl (List.Mem.head _) (op_fieldAddr _ _ _ _ 1 0 _ Tryd.underlying23 rfl sz9 rfl rfl (by decide)),
             st_run 14 40 true rfl rfl rfl (List.Mem.head _) (op_load _ _ _ _ _ _ Tryd.underlying9 rfl rfl rfl (Nat.le_of_ble_eq_true rfl) rfl rfl rfl),
             st_run 14 40 true rfl rfl rfl (List.Mem.head _) (op_bin _ _ _ _ _ rfl rfl rfl),
             st_plain rfl (op_pick _ _ true _ rfl rfl),
             st_plain rfl (op_move _ _ _ _ (congrArg (fun b => AV.v (Value.bool b)) hg5_19) rfl),
             st_run 19 45 true rfl rfl rfl (List.Mem.head _) (op_fieldAddr _ _ _ _ 1 0 _ Tryd.underlying23 rfl sz9 rfl rfl (by decide)),
             st_run 19 45 true rfl rfl rfl (List.Mem.head _) (op_load _ _ _ _ _ _ Tryd.underlying9 rfl rfl rfl (Nat.le_of_ble_eq_true rfl) rfl rfl rfl),
             st_run 19 45 true rfl rfl rfl (List.Mem.head _) (op_bin _ _ _ _ _ rfl rfl rfl),
             st_plain rfl (op_pick _ _ true _ rfl rfl),
             st_plain rfl (op_move _ _ _ _ (congrArg (fun b => AV.v (Value.bool b)) hg5_24) rfl),
             st_run 24 50 true rfl rfl rfl (List.Mem.head _) (op_move _ _ _ _ rfl rfl),
             st_run 24 50 true rfl rfl rfl (List.Mem.head _) (op_bin _ _ _ _ _ rfl rfl rfl),
             st_plain rfl (op_pick _ _ true _ rfl rfl),
             st_plain rfl (op_move _ _ _ _ (congrArg (fun b => AV.v (Value.bool b)) hg5_28) rfl),
             st_run 28 54 true rfl rfl rfl (List.Mem.head _) (op_fieldAddr _ _ _ _ 5 0 _ Tryd.underlying23 rfl sz4 rfl rfl (by decide)),
             st_run 28 54 true rfl rfl rfl (List.Mem.head _) (op_load _ _ _ _ _ _ Tryd.underlying4 rfl rfl rfl (Nat.le_of_ble_eq_true rfl) rfl rfl rfl),
             st_plain rfl (op_pick _ _ true _ rfl rfl),
             st_plain rfl (op_move _ _ _ _ (congrArg (fun b => AV.v (Value.bool b)) hg5_32) rfl),
             st_run 32 58 true rfl rfl rfl (List.Mem.head _) (op_callG _ _ 74 14 _ _ rfl Tryd.call14 rfl rfl (fun _ h => h) (ok_path_Domain mx (⟨#[120]⟩ : ByteArray) _ hv5) rfl rfl),
             st_plain rfl (op_pick _ _ true _ rfl rfl),
             st_plain rfl (op_move _ _ _ _ (congrArg (fun b => AV.v (Value.bool b)) hg5_35) rfl),
             st_skip 35 61 _ true rfl rfl rfl rfl (List.Mem.head _),
             st_skip 35 61 _ true rfl rfl rfl rfl (List.Mem.head _),
             st_plain rfl (op_pick _ _ false _ rfl rfl),
             st_plain rfl (op_move _ _ _ _ rfl rfl),
             st_skip 39 65 _ true rfl rfl rfl rfl (List.Mem.head _),
             st_skip 39 65 _ true rfl rfl rfl rfl (List.Mem.head _),
             st_plain rfl (op_pick _ _ false _ rfl rfl),
             st_plain rfl (op_move _ _ _ _ rfl rfl),
             st_skip 43 69 _ true rfl rfl rfl rfl (List.Mem.head _),
             st_skip 43 69 _ true rfl rfl rfl rfl (List.Mem.head _),
             st_skip 43 69 _ true rfl rfl rfl rfl (List.Mem.head _),
             st_plain rfl (op_pick _ _ false _ rfl rfl),
             st_plain rfl (op_assign _ _ _ _ rfl rfl),
             trivial⟩ ?_
            exact hl11 _ (Option.some.inj h).symm
          ·refine ht_seqR hn (El := (_ :: _ :: _ :: _ :: _ :: _ :: _ :: _ :: (26, .v (.int .i64 v1.2)) :: (27, .v (.bool (v1.2 == 0))) :: (28, .v (.bool true)) :: (29, .v (.int .i64 v2.2)) :: (30, .v (.bool (v2.2 == 0))) :: (31, .v (.bool (v2.2 == 0))) :: (32, .v (.bool true)) :: (33, .v (.int .i64 v3.2)) :: (34, .v (.bool (v3.2 == 0))) :: (35, .v (.bool (v3.2 == 0))) :: (36, .v (.bool true)) :: (37, .v (.int .i64 v4.2)) :: (38, .v (.bool (v4.2 == 5))) :: (39, .v (.bool (v4.2 == 5))) :: (40, .v (.bool true)) :: (41, .ptr 1 1) :: (42, .v (.string v1.1.Local)) :: (43, .v (.bool ((v1.1.Local.toList == (⟨#[97, 46, 98]⟩ : ByteArray).toList)))) :: (44, .v (.bool ((v1.1.Local.toList == (⟨#[97, 46, 98]⟩ : ByteArray).toList)))) :: (45, .v (.bool true)) :: (46, .ptr 1 2) :: (47, .v (.string v1.1.Domain)) :: (48, .v (.bool ((v1.1.Domain.toList == (⟨#[99, 45, 100, 46, 101, 120, 97, 109, 112, 108, 101]⟩ : ByteArray).toList)))) :: (49, .v (.bool ((v1.1.Domain.toList == (⟨#[99, 45, 100, 46, 101, 120, 97, 109, 112, 108, 101]⟩ : ByteArray).toList)))) :: (50, .v (.bool true)) :: (51, .v (.string v2.1)) :: (52, .v (.bool ((v2.1.toList == (⟨#[60, 97, 46, 98, 64, 99, 45, 100, 46, 101, 120, 97, 109, 112, 108, 101, 62]⟩ : ByteArray).toList)))) :: (53, .v (.bool ((v2.1.toList == (⟨#[60, 97, 46, 98, 64, 99, 45, 100, 46, 101, 120, 97, 109, 112, 108, 101, 62]⟩ : ByteArray).toList)))) :: (54, .v (.bool true)) :: (55, .ptr 5 0) :: (56, .v (.bool v3.1.Null)) :: (57, .v (.bool v3.1.Null)) :: (58, .v (.bool false)) :: (59, .v undef) :: (60, .v (.bool false)) :: (61, .v (.bool false)) :: (62, .v undef) :: (63, .v undef) :: (64, .v (.bool false)) :: (65, .v (.bool false)) :: (66, .v undef) :: (67, .v undef) :: (68, .v (.bool false)) :: (69, .v (.bool false)) :: (70, .v undef) :: (71, .v undef) :: (72, .v undef) :: (73, .v (.bool false)) :: (0, .v (.bool false)) :: [])) (init := [0, 1, 2, 3, 4, 5, 6, 7]) (fin := [0, 56]) (sps := (⟨[2], [], [8], [(.slot 26)]⟩ :: ⟨[8], [], [9], [(.slot 27)]⟩ :: ⟨[9], [], [10], [(.slot 28)]⟩ :: ⟨[10, 4], [], [11], [(.slot 29)]⟩ :: ⟨[10, 11], [], [12], [(.slot 30)]⟩ :: ⟨[10, 12], [], [13], [(.slot 31)]⟩ :: ⟨[13], [], [14], [(.slot 32)]⟩ :: ⟨[14, 6], [], [15], [(.slot 33)]⟩ :: ⟨[14, 15], [], [16], [(.slot 34)]⟩ :: ⟨[14, 16], [], [17], [(.slot 35)]⟩ :: ⟨[17], [], [18], [(.slot 36)]⟩ :: ⟨[18, 7], [], [19], [(.slot 37)]⟩ :: ⟨[18, 19], [], [20], [(.slot 38)]⟩ :: ⟨[18, 20], [], [21], [(.slot 39)]⟩ :: ⟨[21], [], [22], [(.slot 40)]⟩ :: ⟨[22, 1], [], [23], [(.slot 41)]⟩ :: ⟨[22, 23, 1], [], [24], [(.slot 42)]⟩ :: ⟨[22, 24], [], [25], [(.slot 43)]⟩ :: ⟨[22, 25], [], [26], [(.slot 44)]⟩ :: ⟨[26], [], [27], [(.slot 45)]⟩ :: ⟨[27, 1], [], [28], [(.slot 46)]⟩ :: ⟨[27, 28, 1], [], [29], [(.slot 47)]⟩ :: ⟨[27, 29], [], [30], [(.slot 48)]⟩ :: ⟨[27, 30], [], [31], [(.slot 49)]⟩ :: ⟨[31], [], [32], [(.slot 50)]⟩ :: ⟨[32, 3], [], [33], [(.slot 51)]⟩ :: ⟨[32, 33], [], [34], [(.slot 52)]⟩ :: ⟨[32, 34], [], [35], [(.slot 53)]⟩ :: ⟨[35], [], [36], [(.slot 54)]⟩ :: ⟨[36, 5], [], [37], [(.slot 55)]⟩ :: ⟨[36, 37, 5], [], [38], [(.slot 56)]⟩ :: ⟨[36, 38], [], [39], [(.slot 57)]⟩ :: ⟨[39], [], [40], [(.slot 58)]⟩ :: ⟨[40], [], [41], [(.slot 59)]⟩ :: ⟨[40], [], [42], [(.slot 60)]⟩ :: ⟨[42], [], [43], [(.slot 61)]⟩ :: ⟨[43], [], [44], [(.slot 62)]⟩ :: ⟨[43], [], [45], [(.slot 63)]⟩ :: ⟨[43], [], [46], [(.slot 64)]⟩ :: ⟨[46], [], [47], [(.slot 65)]⟩ :: ⟨[47], [], [48], [(.slot 66)]⟩ :: ⟨[47], [], [49], [(.slot 67)]⟩ :: ⟨[47], [], [50], [(.slot 68)]⟩ :: ⟨[50], [], [51], [(.slot 69)]⟩ :: ⟨[51], [], [52], [(.slot 70)]⟩ :: ⟨[51], [], [53], [(.slot 71)]⟩ :: ⟨[51], [], [54], [(.slot 72)]⟩ :: ⟨[51], [], [55], [(.slot 73)]⟩ :: ⟨[55], [], [56], [(.slot 0)]⟩ :: [])) (es' := [(_, _), (0, .v (.bool false))]) (by kernel_rfl) rfl rfl
            ⟨st_plain rfl (op_move _ _ _ _ rfl rfl),
            st_plain rfl (op_bin _ _ _ _ _ rfl rfl rfl),
            st_plain rfl (op_move _ _ _ _ (congrArg (fun b => AV.v (Value.bool b)) hg5_2) rfl),
            st_run 2 28 true rfl rfl rfl (List.Mem.head _) (op_move _ _ _ _ rfl rfl),
            st_run 2 28 true rfl rfl rfl (List.Mem.head _) (op_bin _ _ _ _ _ rfl rfl rfl),
            st_plain rfl (op_pick _ _ true _ rfl rfl),
            st_plain rfl (op_move _ _ _ _ (congrArg (fun b => AV.v (Value.bool b)) hg5_6) rfl),
            st_run 6 32 true rfl rfl rfl (List.Mem.head _) (op_move _ _ _ _ rfl rfl),
            st_run 6 32 true rfl rfl rfl (List.Mem.head _) (op_bin _ _ _ _ _ rfl rfl rfl),
            st_plain rfl (op_pick _ _ true _ rfl rfl),
            st_plain rfl (op_move _ _ _ _ (congrArg (fun b => AV.v (Value.bool b)) hg5_10) rfl),
            st_run 10 36 true rfl rfl rfl (List.Mem.head _) (op_move _ _ _ _ rfl rfl),
            st_run 10 36 true rfl rfl rfl (List.Mem.head _) (op_bin _ _ _ _ _ rfl rfl rfl),
            st_plain rfl (op_pick _ _ true _ rfl rfl),
            st_plain rfl (op_move _ _ _ _ (congrArg (fun b => AV.v (Value.bool b)) hg5_14) rfl),
            st_run 14 40 true rfl rfl rfl (List.Mem.head _) (op_fieldAddr _ _ _ _ 1 0 _ Tryd.underlying23 rfl sz9 rfl rfl (by decide)),
            st_run 14 40 true rfl rfl rfl (List.Mem.head _) (op_load _ _ _ _ _ _ Tryd.underlying9 rfl rfl rfl (Nat.le_of_ble_eq_true rfl) rfl rfl rfl),
            st_run 14 40 true rfl rfl rfl (List.Mem.head _) (op_bin _ _ _ _ _ rfl rfl rfl),
            st_plain rfl (op_pick _ _ true _ rfl rfl),
            st_plain rfl (op_move _ _ _ _ (congrArg (fun b => AV.v (Value.bool b)) hg5_19) rfl),
            st_run 19 45 true rfl rfl rfl (List.Mem.head _) (op_fieldAddr _ _ _ _ 1 0 _ Tryd.underlying23 rfl sz9 rfl rfl (by decide)),
            st_run 19 45 true rfl rfl rfl (List.Mem.head _) (op_load _ _ _ _ _ _ Tryd.underlying9 rfl rfl rfl (Nat.le_of_ble_eq_true rfl) rfl rfl rfl),
            st_run 19 45 true rfl rfl rfl (List.Mem.head _) (op_bin _ _ _ _ _ rfl rfl rfl),
            st_plain rfl (op_pick _ _ true _ rfl rfl),
            st_plain rfl (op_move _ _ _ _ (congrArg (fun b => AV.v (Value.bool b)) hg5_24) rfl),
            st_run 24 50 true rfl rfl rfl (List.Mem.head _) (op_move _ _ _ _ rfl rfl),
            st_run 24 50 true rfl rfl rfl (List.Mem.head _) (op_bin _ _ _ _ _ rfl rfl rfl),
            st_plain rfl (op_pick _ _ true _ rfl rfl),
            st_plain rfl (op_move _ _ _ _ (congrArg (fun b => AV.v (Value.bool b)) hg5_28) rfl),
            st_run 28 54 true rfl rfl rfl (List.Mem.head _) (op_fieldAddr _ _ _ _ 5 0 _ Tryd.underlying23 rfl sz4 rfl rfl (by decide)),
            st_run 28 54 true rfl rfl rfl (List.Mem.head _) (op_load _ _ _ _ _ _ Tryd.underlying4 rfl rfl rfl (Nat.le_of_ble_eq_true rfl) rfl rfl rfl),
            st_plain rfl (op_pick _ _ true _ rfl rfl),
            st_plain rfl (op_move _ _ _ _ (congrArg (fun b => AV.v (Value.bool b)) hg5_32) rfl),
            st_skip 32 58 _ true rfl rfl rfl rfl (List.Mem.head _),
            st_plain rfl (op_pick _ _ false _ rfl rfl),
            st_plain rfl (op_move _ _ _ _ rfl rfl),
            st_skip 35 61 _ true rfl rfl rfl rfl (List.Mem.head _),
            st_skip 35 61 _ true rfl rfl rfl rfl (List.Mem.head _),
            st_plain rfl (op_pick _ _ false _ rfl rfl),
            st_plain rfl (op_move _ _ _ _ rfl rfl),
            st_skip 39 65 _ true rfl rfl rfl rfl (List.Mem.head _),
            st_skip 39 65 _ true rfl rfl rfl rfl (List.Mem.head _),
            st_plain rfl (op_pick _ _ false _ rfl rfl),
            st_plain rfl (op_move _ _ _ _ rfl rfl),
            st_skip 43 69 _ true rfl rfl rfl rfl (List.Mem.head _),
            st_skip 43 69 _ true rfl rfl rfl rfl (List.Mem.head _),
            st_skip 43 69 _ true rfl rfl rfl rfl (List.Mem.head _),
            st_plain rfl (op_pick _ _ false _ rfl rfl),
            st_plain rfl (op_assign _ _ _ _ rfl rfl),
            trivial⟩ ?_
           exact hl11 _ (Option.some.inj h).symm
         ·refine ht_seqR hn (El := (_ :: _ :: _ :: _ :: _ :: _ :: _ :: _ :: (26, .v (.int .i64 v1.2)) :: (27, .v (.bool (v1.2 == 0))) :: (28, .v (.bool true)) :: (29, .v (.int .i64 v2.2)) :: (30, .v (.bool (v2.2 == 0))) :: (31, .v (.bool (v2.2 == 0))) :: (32, .v (.bool true)) :: (33, .v (.int .i64 v3.2)) :: (34, .v (.bool (v3.2 == 0))) :: (35, .v (.bool (v3.2 == 0))) :: (36, .v (.bool true)) :: (37, .v (.int .i64 v4.2)) :: (38, .v (.bool (v4.2 == 5))) :: (39, .v (.bool (v4.2 == 5))) :: (40, .v (.bool true)) :: (41, .ptr 1 1) :: (42, .v (.string v1.1.Local)) :: (43, .v (.bool ((v1.1.Local.toList == (⟨#[97, 46, 98]⟩ : ByteArray).toList)))) :: (44, .v (.bool ((v1.1.Local.toList == (⟨#[97, 46, 98]⟩ : ByteArray).toList)))) :: (45, .v (.bool true)) :: (46, .ptr 1 2) :: (47, .v (.string v1.1.Domain)) :: (48, .v (.bool ((v1.1.Domain.toList == (⟨#[99, 45, 100, 46, 101, 120, 97, 109, 112, 108, 101]⟩ : ByteArray).toList)))) :: (49, .v (.bool ((v1.1.Domain.toList == (⟨#[99, 45, 100, 46, 101, 120, 97, 109, 112, 108, 101]⟩ : ByteArray).toList)))) :: (50, .v (.bool true)) :: (51, .v (.string v2.1)) :: (52, .v (.bool ((v2.1.toList == (⟨#[60, 97, 46, 98, 64, 99, 45, 100, 46, 101, 120, 97, 109, 112, 108, 101, 62]⟩ : ByteArray).toList)))) :: (53, .v (.bool ((v2.1.toList == (⟨#[60, 97, 46, 98, 64, 99, 45, 100, 46, 101, 120, 97, 109, 112, 108, 101, 62]⟩ : ByteArray).toList)))) :: (54, .v (.bool false)) :: (55, .v undef) :: (56, .v undef) :: (57, .v (.bool false)) :: (58, .v (.bool false)) :: (59, .v undef) :: (60, .v (.bool false)) :: (61, .v (.bool false)) :: (62, .v undef) :: (63, .v undef) :: (64, .v (.bool false)) :: (65, .v (.bool false)) :: (66, .v undef) :: (67, .v undef) :: (68, .v (.bool false)) :: (69, .v (.bool false)) :: (70, .v undef) :: (71, .v undef) :: (72, .v undef) :: (73, .v (.bool false)) :: (0, .v (.bool false)) :: [])) (init := [0, 1, 2, 3, 4, 5, 6, 7]) (fin := [0, 56]) (sps := (⟨[2], [], [8], [(.slot 26)]⟩ :: ⟨[8], [], [9], [(.slot 27)]⟩ :: ⟨[9], [], [10], [(.slot 28)]⟩ :: ⟨[10, 4], [], [11], [(.slot 29)]⟩ :: ⟨[10, 11], [], [12], [(.slot 30)]⟩ :: ⟨[10, 12], [], [13], [(.slot 31)]⟩ :: ⟨[13], [], [14], [(.slot 32)]⟩ :: ⟨[14, 6], [], [15], [(.slot 33)]⟩ :: ⟨[14, 15], [], [16], [(.slot 34)]⟩ :: ⟨[14, 16], [], [17], [(.slot 35)]⟩ :: ⟨[17], [], [18], [(.slot 36)]⟩ :: ⟨[18, 7], [], [19], [(.slot 37)]⟩ :: ⟨[18, 19], [], [20], [(.slot 38)]⟩ :: ⟨[18, 20], [], [21], [(.slot 39)]⟩ :: ⟨[21], [], [22], [(.slot 40)]⟩ :: ⟨[22, 1], [], [23], [(.slot 41)]⟩ :: ⟨[22, 23, 1], [], [24], [(.slot 42)]⟩ :: ⟨[22, 24], [], [25], [(.slot 43)]⟩ :: ⟨[22, 25], [], [26], [(.slot 44)]⟩ :: ⟨[26], [], [27], [(.slot 45)]⟩ :: ⟨[27, 1], [], [28], [(.slot 46)]⟩ :: ⟨[27, 28, 1], [], [29], [(.slot 47)]⟩ :: ⟨[27, 29], [], [30], [(.slot 48)]⟩ :: ⟨[27, 30], [], [31], [(.slot 49)]⟩ :: ⟨[31], [], [32], [(.slot 50)]⟩ :: ⟨[32, 3], [], [33], [(.slot 51)]⟩ :: ⟨[32, 33], [], [34], [(.slot 52)]⟩ :: ⟨[32, 34], [], [35], [(.slot 53)]⟩ :: ⟨[35], [], [36], [(.slot 54)]⟩ :: ⟨[36], [], [37], [(.slot 55)]⟩ :: ⟨[36], [], [38], [(.slot 56)]⟩ :: ⟨[36], [], [39], [(.slot 57)]⟩ :: ⟨[39], [], [40], [(.slot 58)]⟩ :: ⟨[40], [], [41], [(.slot 59)]⟩ :: ⟨[40], [], [42], [(.slot 60)]⟩ :: ⟨[42], [], [43], [(.slot 61)]⟩ :: ⟨[43], [], [44], [(.slot 62)]⟩ :: ⟨[43], [], [45], [(.slot 63)]⟩ :: ⟨[43], [], [46], [(.slot 64)]⟩ :: ⟨[46], [], [47], [(.slot 65)]⟩ :: ⟨[47], [], [48], [(.slot 66)]⟩ :: ⟨[47], [], [49], [(.slot 67)]⟩ :: ⟨[47], [], [50], [(.slot 68)]⟩ :: ⟨[50], [], [51], [(.slot 69)]⟩ :: ⟨[51], [], [52], [(.slot 70)]⟩ :: ⟨[51], [], [53], [(.slot 71)]⟩ :: ⟨[51], [], [54], [(.slot 72)]⟩ :: ⟨[51], [], [55], [(.slot 73)]⟩ :: ⟨[55], [], [56], [(.slot 0)]⟩ :: [])) (es' := [(_, _), (0, .v (.bool false))]) (by kernel_rfl) rfl rfl
           ⟨st_plain rfl (op_move _ _ _ _ rfl rfl),
           st_plain rfl (op_bin _ _ _ _ _ rfl rfl rfl),
           st_plain rfl (op_move _ _ _ _ (congrArg (fun b => AV.v (Value.bool b)) hg5_2) rfl),
           st_run 2 28 true rfl rfl rfl (List.Mem.head _) (op_move _ _ _ _ rfl rfl),
           st_run 2 28 true rfl rfl rfl (List.Mem.head _) (op_bin _ _ _ _ _ rfl rfl rfl),
           st_plain rfl (op_pick _ _ true _ rfl rfl),
           st_plain rfl (op_move _ _ _ _ (congrArg (fun b => AV.v (Value.bool b)) hg5_6) rfl),
           st_run 6 32 true rfl rfl rfl (List.Mem.head _) (op_move _ _ _ _ rfl rfl),
           st_run 6 32 true rfl rfl rfl (List.Mem.head _) (op_bin _ _ _ _ _ rfl rfl rfl),
           st_plain rfl (op_pick _ _ true _ rfl rfl),
           st_plain rfl (op_move _ _ _ _ (congrArg (fun b => AV.v (Value.bool b)) hg5_10) rfl),
           st_run 10 36 true rfl rfl rfl (List.Mem.head _) (op_move _ _ _ _ rfl rfl),
           st_run 10 36 true rfl rfl rfl (List.Mem.head _) (op_bin _ _ _ _ _ rfl rfl rfl),
           st_plain rfl (op_pick _ _ true _ rfl rfl),
           st_plain rfl (op_move _ _ _ _ (congrArg (fun b => AV.v (Value.bool b)) hg5_14) rfl),
           st_run 14 40 true rfl rfl rfl (List.Mem.head _) (op_fieldAddr _ _ _ _ 1 0 _ Tryd.underlying23 rfl sz9 rfl rfl (by decide)),
           st_run 14 40 true rfl rfl rfl (List.Mem.head _) (op_load _ _ _ _ _ _ Tryd.underlying9 rfl rfl rfl (Nat.le_of_ble_eq_true rfl) rfl rfl rfl),
           st_run 14 40 true rfl rfl rfl (List.Mem.head _) (op_bin _ _ _ _ _ rfl rfl rfl),
           st_plain rfl (op_pick _ _ true _ rfl rfl),
           st_plain rfl (op_move _ _ _ _ (congrArg (fun b => AV.v (Value.bool b)) hg5_19) rfl),
           st_run 19 45 true rfl rfl rfl (List.Mem.head _) (op_fieldAddr _ _ _ _ 1 0 _ Tryd.underlying23 rfl sz9 rfl rfl (by decide)),
           st_run 19 45 true rfl rfl rfl (List.Mem.head _) (op_load _ _ _ _ _ _ Tryd.underlying9 rfl rfl rfl (Nat.le_of_ble_eq_true rfl) rfl rfl rfl),
           st_run 19 45 true rfl rfl rfl (List.Mem.head _) (op_bin _ _ _ _ _ rfl rfl rfl),
           st_plain rfl (op_pick _ _ true _ rfl rfl),
           st_plain rfl (op_move _ _ _ _ (congrArg (fun b => AV.v (Value.bool b)) hg5_24) rfl),
           st_run 24 50 true rfl rfl rfl (List.Mem.head _) (op_move _ _ _ _ rfl rfl),
           st_run 24 50 true rfl rfl rfl (List.Mem.head _) (op_bin _ _ _ _ _ rfl rfl rfl),
           st_plain rfl (op_pick _ _ true _ rfl rfl),
           st_plain rfl (op_move _ _ _ _ (congrArg (fun b => AV.v (Value.bool b)) hg5_28) rfl),
           st_skip 28 54 _ true rfl rfl rfl rfl (List.Mem.head _),
           st_skip 28 54 _ true rfl rfl rfl rfl (List.Mem.head _),
           st_plain rfl (op_pick _ _ false _ rfl rfl),
           st_plain rfl (op_move _ _ _ _ rfl rfl),
           st_skip 32 58 _ true rfl rfl rfl rfl (List.Mem.head _),
           st_plain rfl (op_pick _ _ false _ rfl rfl),
           st_plain rfl (op_move _ _ _ _ rfl rfl),
           st_skip 35 61 _ true rfl rfl rfl rfl (List.Mem.head _),
           st_skip 35 61 _ true rfl rfl rfl rfl (List.Mem.head _),
           st_plain rfl (op_pick _ _ false _ rfl rfl),
           st_plain rfl (op_move _ _ _ _ rfl rfl),
           st_skip 39 65 _ true rfl rfl rfl rfl (List.Mem.head _),
           st_skip 39 65 _ true rfl rfl rfl rfl (List.Mem.head _),
           st_plain rfl (op_pick _ _ false _ rfl rfl),
           st_plain rfl (op_move _ _ _ _ rfl rfl),
           st_skip 43 69 _ true rfl rfl rfl rfl (List.Mem.head _),
           st_skip 43 69 _ true rfl rfl rfl rfl (List.Mem.head _),
           st_skip 43 69 _ true rfl rfl rfl rfl (List.Mem.head _),
           st_plain rfl (op_pick _ _ false _ rfl rfl),
           st_plain rfl (op_assign _ _ _ _ rfl rfl),
           trivial⟩ ?_
          exact hl11 _ (Option.some.inj h).symm
        ·refine ht_seqR hn (El := (_ :: _ :: _ :: _ :: _ :: _ :: _ :: _ :: (26, .v (.int .i64 v1.2)) :: (27, .v (.bool (v1.2 == 0))) :: (28, .v (.bool true)) :: (29, .v (.int .i64 v2.2)) :: (30, .v (.bool (v2.2 == 0))) :: (31, .v (.bool (v2.2 == 0))) :: (32, .v (.bool true)) :: (33, .v (.int .i64 v3.2)) :: (34, .v (.bool (v3.2 == 0))) :: (35, .v (.bool (v3.2 == 0))) :: (36, .v (.bool true)) :: (37, .v (.int .i64 v4.2)) :: (38, .v (.bool (v4.2 == 5))) :: (39, .v (.bool (v4.2 == 5))) :: (40, .v (.bool true)) :: (41, .ptr 1 1) :: (42, .v (.string v1.1.Local)) :: (43, .v (.bool ((v1.1.Local.toList == (⟨#[97, 46, 98]⟩ : ByteArray).toList)))) :: (44, .v (.bool ((v1.1.Local.toList == (⟨#[97, 46, 98]⟩ : ByteArray).toList)))) :: (45, .v (.bool true)) :: (46, .ptr 1 2) :: (47, .v (.string v1.1.Domain)) :: (48, .v (.bool ((v1.1.Domain.toList == (⟨#[99, 45, 100, 46, 101, 120, 97, 109, 112, 108, 101]⟩ : ByteArray).toList)))) :: (49, .v (.bool ((v1.1.Domain.toList == (⟨#[99, 45, 100, 46, 101, 120, 97, 109, 112, 108, 101]⟩ : ByteArray).toList)))) :: (50, .v (.bool false)) :: (51, .v undef) :: (52, .v undef) :: (53, .v (.bool false)) :: (54, .v (.bool false)) :: (55, .v undef) :: (56, .v undef) :: (57, .v (.bool false)) :: (58, .v (.bool false)) :: (59, .v undef) :: (60, .v (.bool false)) :: (61, .v (.bool false)) :: (62, .v undef) :: (63, .v undef) :: (64, .v (.bool false)) :: (65, .v (.bool false)) :: (66, .v undef) :: (67, .v undef) :: (68, .v (.bool false)) :: (69, .v (.bool false)) :: (70, .v undef) :: (71, .v undef) :: (72, .v undef) :: (73, .v (.bool false)) :: (0, .v (.bool false)) :: [])) (init := [0, 1, 2, 3, 4, 5, 6, 7]) (fin := [0, 56]) (sps := (⟨[2], [], [8], [(.slot 26)]⟩ :: ⟨[8], [], [9], [(.slot 27)]⟩ :: ⟨[9], [], [10], [(.slot 28)]⟩ :: ⟨[10, 4], [], [11], [(.slot 29)]⟩ :: ⟨[10, 11], [], [12], [(.slot 30)]⟩ :: ⟨[10, 12], [], [13], [(.slot 31)]⟩ :: ⟨[13], [], [14], [(.slot 32)]⟩ :: ⟨[14, 6], [], [15], [(.slot 33)]⟩ :: ⟨[14, 15], [], [16], [(.slot 34)]⟩ :: ⟨[14, 16], [], [17], [(.slot 35)]⟩ :: ⟨[17], [], [18], [(.slot 36)]⟩ :: ⟨[18, 7], [], [19], [(.slot 37)]⟩ :: ⟨[18, 19], [], [20], [(.slot 38)]⟩ :: ⟨[18, 20], [], [21], [(.slot 39)]⟩ :: ⟨[21], [], [22], [(.slot 40)]⟩ :: ⟨[22, 1], [], [23], [(.slot 41)]⟩ :: ⟨[22, 23, 1], [], [24], [(.slot 42)]⟩ :: ⟨[22, 24], [], [25], [(.slot 43)]⟩ :: ⟨[22, 25], [], [26], [(.slot 44)]⟩ :: ⟨[26], [], [27], [(.slot 45)]⟩ :: ⟨[27, 1], [], [28], [(.slot 46)]⟩ :: ⟨[27, 28, 1], [], [29], [(.slot 47)]⟩ :: ⟨[27, 29], [], [30], [(.slot 48)]⟩ :: ⟨[27, 30], [], [31], [(.slot 49)]⟩ :: ⟨[31], [], [32], [(.slot 50)]⟩ :: ⟨[32], [], [33], [(.slot 51)]⟩ :: ⟨[32], [], [34], [(.slot 52)]⟩ :: ⟨[32], [], [35], [(.slot 53)]⟩ :: ⟨[35], [], [36], [(.slot 54)]⟩ :: ⟨[36], [], [37], [(.slot 55)]⟩ :: ⟨[36], [], [38], [(.slot 56)]⟩ :: ⟨[36], [], [39], [(.slot 57)]⟩ :: ⟨[39], [], [40], [(.slot 58)]⟩ :: ⟨[40], [], [41], [(.slot 59)]⟩ :: ⟨[40], [], [42], [(.slot 60)]⟩ :: ⟨[42], [], [43], [(.slot 61)]⟩ :: ⟨[43], [], [44], [(.slot 62)]⟩ :: ⟨[43], [], [45], [(.slot 63)]⟩ :: ⟨[43], [], [46], [(.slot 64)]⟩ :: ⟨[46], [], [47], [(.slot 65)]⟩ :: ⟨[47], [], [48], [(.slot 66)]⟩ :: ⟨[47], [], [49], [(.slot 67)]⟩ :: ⟨[47], [], [50], [(.slot 68)]⟩ :: ⟨[50], [], [51], [(.slot 69)]⟩ :: ⟨[51], [], [52], [(.slot 70)]⟩ :: ⟨[51], [], [53], [(.slot 71)]⟩ :: ⟨[51], [], [54], [(.slot 72)]⟩ :: ⟨[51], [], [55], [(.slot 73)]⟩ :: ⟨[55], [], [56], [(.slot 0)]⟩ :: [])) (es' := [(_, _), (0, .v (.bool false))]) (by kernel_rfl) rfl rfl
          ⟨st_plain rfl (op_move _ _ _ _ rfl rfl),
          st_plain rfl (op_bin _ _ _ _ _ rfl rfl rfl),
          st_plain rfl (op_move _ _ _ _ (congrArg (fun b => AV.v (Value.bool b)) hg5_2) rfl),
          st_run 2 28 true rfl rfl rfl (List.Mem.head _) (op_move _ _ _ _ rfl rfl),
          st_run 2 28 true rfl rfl rfl (List.Mem.head _) (op_bin _ _ _ _ _ rfl rfl rfl),
          st_plain rfl (op_pick _ _ true _ rfl rfl),
          st_plain rfl (op_move _ _ _ _ (congrArg (fun b => AV.v (Value.bool b)) hg5_6) rfl),
          st_run 6 32 true rfl rfl rfl (List.Mem.head _) (op_move _ _ _ _ rfl rfl),
          st_run 6 32 true rfl rfl rfl (List.Mem.head _) (op_bin _ _ _ _ _ rfl rfl rfl),
          st_plain rfl (op_pick _ _ true _ rfl rfl),
          st_plain rfl (op_move _ _ _ _ (congrArg (fun b => AV.v (Value.bool b)) hg5_10) rfl),
          st_run 10 36 true rfl rfl rfl (List.Mem.head _) (op_move _ _ _ _ rfl rfl),
          st_run 10 36 true rfl rfl rfl (List.Mem.head _) (op_bin _ _ _ _ _ rfl rfl rfl),
          st_plain rfl (op_pick _ _ true _ rfl rfl),
          st_plain rfl (op_move _ _ _ _ (congrArg (fun b => AV.v (Value.bool b)) hg5_14) rfl),
          st_run 14 40 true rfl rfl rfl (List.Mem.head _) (op_fieldAddr _ _ _ _ 1 0 _ Tryd.underlying23 rfl sz9 rfl rfl (by decide)),
          st_run 14 40 true rfl rfl rfl (List.Mem.head _) (op_load _ _ _ _ _ _ Tryd.underlying9 rfl rfl rfl (Nat.le_of_ble_eq_true rfl) rfl rfl rfl),
          st_run 14 40 true rfl rfl rfl (List.Mem.head _) (op_bin _ _ _ _ _ rfl rfl rfl),
          st_plain rfl (op_pick _ _ true _ rfl rfl),
          st_plain rfl (op_move _ _ _ _ (congrArg (fun b => AV.v (Value.bool b)) hg5_19) rfl),
          st_run 19 45 true rfl rfl rfl (List.Mem.head _) (op_fieldAddr _ _ _ _ 1 0 _ Tryd.underlying23 rfl sz9 rfl rfl (by decide)),
          st_run 19 45 true rfl rfl rfl (List.Mem.head _) (op_load _ _ _ _ _ _ Tryd.underlying9 rfl rfl rfl (Nat.le_of_ble_eq_true rfl) rfl rfl rfl),
          st_run 19 45 true rfl rfl rfl (List.Mem.head _) (op_bin _ _ _ _ _ rfl rfl rfl),
          st_plain rfl (op_pick _ _ true _ rfl rfl),
          st_plain rfl (op_move _ _ _ _ (congrArg (fun b => AV.v (Value.bool b)) hg5_24) rfl),
          st_skip 24 50 _ true rfl rfl rfl rfl (List.Mem.head _),
          st_skip 24 50 _ true rfl rfl rfl rfl (List.Mem.head _),
          st_plain rfl (op_pick _ _ false _ rfl rfl),
          st_plain rfl (op_move _ _ _ _ rfl rfl),
          st_skip 28 54 _ true rfl rfl rfl rfl (List.Mem.head _),
          st_skip 28 54 _ true rfl rfl rfl rfl (List.Mem.head _),
          st_plain rfl (op_pick _ _ false _ rfl rfl),
          st_plain rfl (op_move _ _ _ _ rfl rfl),
          st_skip 32 58 _ true rfl rfl rfl rfl (List.Mem.head _),
          st_plain rfl (op_pick _ _ false _ rfl rfl),
          st_plain rfl (op_move _ _ _ _ rfl rfl),
          st_skip 35 61 _ true rfl rfl rfl rfl (List.Mem.head _),
          st_skip 35 61 _ true rfl rfl rfl rfl (List.Mem.head _),
          st_plain rfl (op_pick _ _ false _ rfl rfl),
          st_plain rfl (op_move _ _ _ _ rfl rfl),
          st_skip 39 65 _ true rfl rfl rfl rfl (List.Mem.head _),
          st_skip 39 65 _ true rfl rfl rfl rfl (List.Mem.head _),
          st_plain rfl (op_pick _ _ false _ rfl rfl),
          st_plain rfl (op_move _ _ _ _ rfl rfl),
          st_skip 43 69 _ true rfl rfl rfl rfl (List.Mem.head _),
          st_skip 43 69 _ true rfl rfl rfl rfl (List.Mem.head _),
          st_skip 43 69 _ true rfl rfl rfl rfl (List.Mem.head _),
          st_plain rfl (op_pick _ _ false _ rfl rfl),
          st_plain rfl (op_assign _ _ _ _ rfl rfl),
          trivial⟩ ?_
         exact hl11 _ (Option.some.inj h).symm
       ·refine ht_seqR hn (El := (_ :: _ :: _ :: _ :: _ :: _ :: _ :: _ :: (26, .v (.int .i64 v1.2)) :: (27, .v (.bool (v1.2 == 0))) :: (28, .v (.bool true)) :: (29, .v (.int .i64 v2.2)) :: (30, .v (.bool (v2.2 == 0))) :: (31, .v (.bool (v2.2 == 0))) :: (32, .v (.bool true)) :: (33, .v (.int .i64 v3.2)) :: (34, .v (.bool (v3.2 == 0))) :: (35, .v (.bool (v3.2 == 0))) :: (36, .v (.bool true)) :: (37, .v (.int .i64 v4.2)) :: (38, .v (.bool (v4.2 == 5))) :: (39, .v (.bool (v4.2 == 5))) :: (40, .v (.bool true)) :: (41, .ptr 1 1) :: (42, .v (.string v1.1.Local)) :: (43, .v (.bool ((v1.1.Local.toList == (⟨#[97, 46, 98]⟩ : ByteArray).toList)))) :: (44, .v (.bool ((v1.1.Local.toList == (⟨#[97, 46, 98]⟩ : ByteArray).toList)))) :: (45, .v (.bool false)) :: (46, .v undef) :: (47, .v undef) :: (48, .v undef) :: (49, .v (.bool false)) :: (50, .v (.bool false)) :: (51, .v undef) :: (52, .v undef) :: (53, .v (.bool false)) :: (54, .v (.bool false)) :: (55, .v undef) :: (56, .v undef) :: (57, .v (.bool false)) :: (58, .v (.bool false)) :: (59, .v undef) :: (60, .v (.bool false)) :: (61, .v (.bool false)) :: (62, .v undef) :: (63, .v undef) :: (64, .v (.bool false)) :: (65, .v (.bool false)) :: (66, .v undef) :: (67, .v undef) :: (68, .v (.bool false)) :: (69, .v (.bool false)) :: (70, .v undef) :: (71, .v undef) :: (72, .v undef) :: (73, .v (.bool false)) :: (0, .v (.bool false)) :: [])) (init := [0, 1, 2, 3, 4, 5, 6, 7]) (fin := [0, 56]) (sps := (⟨[2], [], [8], [(.slot 26)]⟩ :: ⟨[8], [], [9], [(.slot 27)]⟩ :: ⟨[9], [], [10], [(.slot 28)]⟩ :: ⟨[10, 4], [], [11], [(.slot 29)]⟩ :: ⟨[10, 11], [], [12], [(.slot 30)]⟩ :: ⟨[10, 12], [], [13], [(.slot 31)]⟩ :: ⟨[13], [], [14], [(.slot 32)]⟩ :: ⟨[14, 6], [], [15], [(.slot 33)]⟩ :: ⟨[14, 15], [], [16], [(.slot 34)]⟩ :: ⟨[14, 16], [], [17], [(.slot 35)]⟩ :: ⟨[17], [], [18], [(.slot 36)]⟩ :: ⟨[18, 7], [], [19], [(.slot 37)]⟩ :: ⟨[18, 19], [], [20], [(.slot 38)]⟩ :: ⟨[18, 20], [], [21], [(.slot 39)]⟩ :: ⟨[21], [], [22], [(.slot 40)]⟩ :: ⟨[22, 1], [], [23], [(.slot 41)]⟩ :: ⟨[22, 23, 1], [], [24], [(.slot 42)]⟩ :: ⟨[22, 24], [], [25], [(.slot 43)]⟩ :: ⟨[22, 25], [], [26], [(.slot 44)]⟩ :: ⟨[26], [], [27], [(.slot 45)]⟩ :: ⟨[27], [], [28], [(.slot 46)]⟩ :: ⟨[27], [], [29], [(.slot 47)]⟩ :: ⟨[27], [], [30], [(.slot 48)]⟩ :: ⟨[27], [], [31], [(.slot 49)]⟩ :: ⟨[31], [], [32], [(.slot 50)]⟩ :: ⟨[32], [], [33], [(.slot 51)]⟩ :: ⟨[32], [], [34], [(.slot 52)]⟩ :: ⟨[32], [], [35], [(.slot 53)]⟩ :: ⟨[35], [], [36], [(.slot 54)]⟩ :: ⟨[36], [], [37], [(.slot 55)]⟩ :: ⟨[36], [], [38], [(.slot 56)]⟩ :: ⟨[36], [], [39], [(.slot 57)]⟩ :: ⟨[39], [], [40], [(.slot 58)]⟩ :: ⟨[40], [], [41], [(.slot 59)]⟩ :: ⟨[40], [], [42], [(.slot 60)]⟩ :: ⟨[42], [], [43], [(.slot 61)]⟩ :: ⟨[43], [], [44], [(.slot 62)]⟩ :: ⟨[43], [], [45], [(.slot 63)]⟩ :: ⟨[43], [], [46], [(.slot 64)]⟩ :: ⟨[46], [], [47], [(.slot 65)]⟩ :: ⟨[47], [], [48], [(.slot 66)]⟩ :: ⟨[47], [], [49], [(.slot 67)]⟩ :: ⟨[47], [], [50], [(.slot 68)]⟩ :: ⟨[50], [], [51], [(.slot 69)]⟩ :: ⟨[51], [], [52], [(.slot 70)]⟩ :: ⟨[51], [], [53], [(.slot 71)]⟩ :: ⟨[51], [], [54], [(.slot 72)]⟩ :: ⟨[51], [], [55], [(.slot 73)]⟩ :: ⟨[55], [], [56], [(.slot 0)]⟩ :: [])) (es' := [(_, _), (0, .v (.bool false))]) (by kernel_rfl) rfl rfl
         ⟨st_plain rfl (op_move _ _ _ _ rfl rfl),
         st_plain rfl (op_bin _ _ _ _ _ rfl rfl rfl),
         st_plain rfl (op_move _ _ _ _ (congrArg (fun b => AV.v (Value.bool b)) hg5_2) rfl),
         st_run 2 28 true rfl rfl rfl (List.Mem.head _) (op_move _ _ _ _ rfl rfl),
         st_run 2 28 true rfl rfl rfl (List.Mem.head _) (op_bin _ _ _ _ _ rfl rfl rfl),
         st_plain rfl (op_pick _ _ true _ rfl rfl),
         st_plain rfl (op_move _ _ _ _ (congrArg (fun b => AV.v (Value.bool b)) hg5_6) rfl),
         st_run 6 32 true rfl rfl rfl (List.Mem.head _) (op_move _ _ _ _ rfl rfl),
         st_run 6 32 true rfl rfl rfl (List.Mem.head _) (op_bin _ _ _ _ _ rfl rfl rfl),
         st_plain rfl (op_pick _ _ true _ rfl rfl),
         st_plain rfl (op_move _ _ _ _ (congrArg (fun b => AV.v (Value.bool b)) hg5_10) rfl),
         st_run 10 36 true rfl rfl rfl (List.Mem.head _) (op_move _ _ _ _ rfl rfl),
         st_run 10 36 true rfl rfl rfl (List.Mem.head _) (op_bin _ _ _ _ _ rfl rfl rfl),
         st_plain rfl (op_pick _ _ true _ rfl rfl),
         st_plain rfl (op_move _ _ _ _ (congrArg (fun b => AV.v (Value.bool b)) hg5_14) rfl),
         st_run 14 40 true rfl rfl rfl (List.Mem.head _) (op_fieldAddr _ _ _ _ 1 0 _ Tryd.underlying23 rfl sz9 rfl rfl (by decide)),
         st_run 14 40 true rfl rfl rfl (List.Mem.head _) (op_load _ _ _ _ _ _ Tryd.underlying9 rfl rfl rfl (Nat.le_of_ble_eq_true rfl) rfl rfl rfl),
         st_run 14 40 true rfl rfl rfl (List.Mem.head _) (op_bin _ _ _ _ _ rfl rfl rfl),
         st_plain rfl (op_pick _ _ true _ rfl rfl),
         st_plain rfl (op_move _ _ _ _ (congrArg (fun b => AV.v (Value.bool b)) hg5_19) rfl),
         st_skip 19 45 _ true rfl rfl rfl rfl (List.Mem.head _),
         st_skip 19 45 _ true rfl rfl rfl rfl (List.Mem.head _),
         st_skip 19 45 _ true rfl rfl rfl rfl (List.Mem.head _),
         st_plain rfl (op_pick _ _ false _ rfl rfl),
         st_plain rfl (op_move _ _ _ _ rfl rfl),
         st_skip 24 50 _ true rfl rfl rfl rfl (List.Mem.head _),
         st_skip 24 50 _ true rfl rfl rfl rfl (List.Mem.head _),
         st_plain rfl (op_pick _ _ false _ rfl rfl),
         st_plain rfl (op_move _ _ _ _ rfl rfl),
         st_skip 28 54 _ true rfl rfl rfl rfl (List.Mem.head _),
         st_skip 28 54 _ true rfl rfl rfl rfl (List.Mem.head _),
         st_plain rfl (op_pick _ _ false _ rfl rfl),
         st_plain rfl (op_move _ _ _ _ rfl rfl),
         st_skip 32 58 _ true rfl rfl rfl rfl (List.Mem.head _),
         st_plain rfl (op_pick _ _ false _ rfl rfl),
         st_plain rfl (op_move _ _ _ _ rfl rfl),
         st_skip 35 61 _ true rfl rfl rfl rfl (List.Mem.head _),
         st_skip 35 61 _ true rfl rfl rfl rfl (List.Mem.head _),
         st_plain rfl (op_pick _ _ false _ rfl rfl),
         st_plain rfl (op_move _ _ _ _ rfl rfl),
         st_skip 39 65 _ true rfl rfl rfl rfl (List.Mem.head _),
         st_skip 39 65 _ true rfl rfl rfl rfl (List.Mem.head _),
         st_plain rfl (op_pick _ _ false _ rfl rfl),
         st_plain rfl (op_move _ _ _ _ rfl rfl),
         st_skip 43 69 _ true rfl rfl rfl rfl (List.Mem.head _),
         st_skip 43 69 _ true rfl rfl rfl rfl (List.Mem.head _),
         st_skip 43 69 _ true rfl rfl rfl rfl (List.Mem.head _),
         st_plain rfl (op_pick _ _ false _ rfl rfl),
         st_plain rfl (op_assign _ _ _ _ rfl rfl),
         trivial⟩ ?_
        exact hl11 _ (Option.some.inj h).symm
      ·refine ht_seqR hn (El := (_ :: _ :: _ :: _ :: _ :: _ :: _ :: _ :: (26, .v (.int .i64 v1.2)) :: (27, .v (.bool (v1.2 == 0))) :: (28, .v (.bool true)) :: (29, .v (.int .i64 v2.2)) :: (30, .v (.bool (v2.2 == 0))) :: (31, .v (.bool (v2.2 == 0))) :: (32, .v (.bool true)) :: (33, .v (.int .i64 v3.2)) :: (34, .v (.bool (v3.2 == 0))) :: (35, .v (.bool (v3.2 == 0))) :: (36, .v (.bool true)) :: (37, .v (.int .i64 v4.2)) :: (38, .v (.bool (v4.2 == 5))) :: (39, .v (.bool (v4.2 == 5))) :: (40, .v (.bool false)) :: (41, .v undef) :: (42, .v undef) :: (43, .v undef) :: (44, .v (.bool false)) :: (45, .v (.bool false)) :: (46, .v undef) :: (47, .v undef) :: (48, .v undef) :: (49, .v (.bool false)) :: (50, .v (.bool false)) :: (51, .v undef) :: (52, .v undef) :: (53, .v (.bool false)) :: (54, .v (.bool false)) :: (55, .v undef) :: (56, .v undef) :: (57, .v (.bool false)) :: (58, .v (.bool false)) :: (59, .v undef) :: (60, .v (.bool false)) :: (61, .v (.bool false)) :: (62, .v undef) :: (63, .v undef) :: (64, .v (.bool false)) :: (65, .v (.bool false)) :: (66, .v undef) :: (67, .v undef) :: (68, .v (.bool false)) :: (69, .v (.bool false)) :: (70, .v undef) :: (71, .v undef) :: (72, .v undef) :: (73, .v (.bool false)) :: (0, .v (.bool false)) :: [])) (init := [0, 1, 2, 3, 4, 5, 6, 7]) (fin := [0, 56]) (sps := (⟨[2], [], [8], [(.slot 26)]⟩ :: ⟨[8], [], [9], [(.slot 27)]⟩ :: ⟨[9], [], [10], [(.slot 28)]⟩ :: ⟨[10, 4], [], [11], [(.slot 29)]⟩ :: ⟨[10, 11], [], [12], [(.slot 30)]⟩ :: ⟨[10, 12], [], [13], [(.slot 31)]⟩ :: ⟨[13], [], [14], [(.slot 32)]⟩ :: ⟨[14, 6], [], [15], [(.slot 33)]⟩ :: ⟨[14, 15], [], [16], [(.slot 34)]⟩ :: ⟨[14, 16], [], [17], [(.slot 35)]⟩ :: ⟨[17], [], [18], [(.slot 36)]⟩ :: ⟨[18, 7], [], [19], [(.slot 37)]⟩ :: ⟨[18, 19], [], [20], [(.slot 38)]⟩ :: ⟨[18, 20], [], [21], [(.slot 39)]⟩ :: ⟨[21], [], [22], [(.slot 40)]⟩ :: ⟨[22], [], [23], [(.slot 41)]⟩ :: ⟨[22], [], [24], [(.slot 42)]⟩ :: ⟨[22], [], [25], [(.slot 43)]⟩ :: ⟨[22], [], [26], [(.slot 44)]⟩ :: ⟨[26], [], [27], [(.slot 45)]⟩ :: ⟨[27], [], [28], [(.slot 46)]⟩ :: ⟨[27], [], [29], [(.slot 47)]⟩ :: ⟨[27], [], [30], [(.slot 48)]⟩ :: ⟨[27], [], [31], [(.slot 49)]⟩ :: ⟨[31], [], [32], [(.slot 50)]⟩ :: ⟨[32], [], [33], [(.slot 51)]⟩ :: ⟨[32], [], [34], [(.slot 52)]⟩ :: ⟨[32], [], [35], [(.slot 53)]⟩ :: ⟨[35], [], [36], [(.slot 54)]⟩ :: ⟨[36], [], [37], [(.slot 55)]⟩ :: ⟨[36], [], [38], [(.slot 56)]⟩ :: ⟨[36], [], [39], [(.slot 57)]⟩ :: ⟨[39], [], [40], [(.slot 58)]⟩ :: ⟨[40], [], [41], [(.slot 59)]⟩ :: ⟨[40], [], [42], [(.slot 60)]⟩ :: ⟨[42], [], [43], [(.slot 61)]⟩ :: ⟨[43], [], [44], [(.slot 62)]⟩ :: ⟨[43], [], [45], [(.slot 63)]⟩ :: ⟨[43], [], [46], [(.slot 64)]⟩ :: ⟨[46], [], [47], [(.slot 65)]⟩ :: ⟨[47], [], [48], [(.slot 66)]⟩ :: ⟨[47], [], [49], [(.slot 67)]⟩ :: ⟨[47], [], [50], [(.slot 68)]⟩ :: ⟨[50], [], [51], [(.slot 69)]⟩ :: ⟨[51], [], [52], [(.slot 70)]⟩ :: ⟨[51], [], [53], [(.slot 71)]⟩ :: ⟨[51], [], [54], [(.slot 72)]⟩ :: ⟨[51], [], [55], [(.slot 73)]⟩ :: ⟨[55], [], [56], [(.slot 0)]⟩ :: [])) (es' := [(_, _), (0, .v (.bool false))]) (by kernel_rfl) rfl rfl
        ⟨st_plain rfl (op_move _ _ _ _ rfl rfl),
        st_plain rfl (op_bin _ _ _ _ _ rfl rfl rfl),
        st_plain rfl (op_move _ _ _ _ (congrArg (fun b => AV.v (Value.bool b)) hg5_2) rfl),
        st_run 2 28 true rfl rfl rfl (List.Mem.head _) (op_move _ _ _ _ rfl rfl),
        st_run 2 28 true rfl rfl rfl (List.Mem.head _) (op_bin _ _ _ _ _ rfl rfl rfl),
        st_plain rfl (op_pick _ _ true _ rfl rfl),
        st_plain rfl (op_move _ _ _ _ (congrArg (fun b => AV.v (Value.bool b)) hg5_6) rfl),
        st_run 6 32 true rfl rfl rfl (List.Mem.head _) (op_move _ _ _ _ rfl rfl),
        st_run 6 32 true rfl rfl rfl (List.Mem.head _) (op_bin _ _ _ _ _ rfl rfl rfl),
        st_plain rfl (op_pick _ _ true _ rfl rfl),
        st_plain rfl (op_move _ _ _ _ (congrArg (fun b => AV.v (Value.bool b)) hg5_10) rfl),
        st_run 10 36 true rfl rfl rfl (List.Mem.head _) (op_move _ _ _ _ rfl rfl),
        st_run 10 36 true rfl rfl rfl (List.Mem.head _) (op_bin _ _ _ _ _ rfl rfl rfl),
        st_plain rfl (op_pick _ _ true _ rfl rfl),
        st_plain rfl (op_move _ _ _ _ (congrArg (fun b => AV.v (Value.bool b)) hg5_14) rfl),
        st_skip 14 40 _ true rfl rfl rfl rfl (List.Mem.head _),
        st_skip 14 40 _ true rfl rfl rfl rfl (List.Mem.head _),
        st_skip 14 40 _ true rfl rfl rfl rfl (List.Mem.head _),
        st_plain rfl (op_pick _ _ false _ rfl rfl),
        st_plain rfl (op_move _ _ _ _ rfl rfl),
        st_skip 19 45 _ true rfl rfl rfl rfl (List.Mem.head _),
        st_skip 19 45 _ true rfl rfl rfl rfl (List.Mem.head _),
        st_skip 19 45 _ true rfl rfl rfl rfl (List.Mem.head _),
        st_plain rfl (op_pick _ _ false _ rfl rfl),
        st_plain rfl (op_move _ _ _ _ rfl rfl),
        st_skip 24 50 _ true rfl rfl rfl rfl (List.Mem.head _),
        st_skip 24 50 _ true rfl rfl rfl rfl (List.Mem.head _),
        st_plain rfl (op_pick _ _ false _ rfl rfl),
        st_plain rfl (op_move _ _ _ _ rfl rfl),
        st_skip 28 54 _ true rfl rfl rfl rfl (List.Mem.head _),
        st_skip 28 54 _ true rfl rfl rfl rfl (List.Mem.head _),
        st_plain rfl (op_pick _ _ false _ rfl rfl),
        st_plain rfl (op_move _ _ _ _ rfl rfl),
        st_skip 32 58 _ true rfl rfl rfl rfl (List.Mem.head _),
        st_plain rfl (op_pick _ _ false _ rfl rfl),
        st_plain rfl (op_move _ _ _ _ rfl rfl),
        st_skip 35 61 _ true rfl rfl rfl rfl (List.Mem.head _),
        st_skip 35 61 _ true rfl rfl rfl rfl (List.Mem.head _),
        st_plain rfl (op_pick _ _ false _ rfl rfl),
        st_plain rfl (op_move _ _ _ _ rfl rfl),
        st_skip 39 65 _ true rfl rfl rfl rfl (List.Mem.head _),
        st_skip 39 65 _ true rfl rfl rfl rfl (List.Mem.head _),
        st_plain rfl (op_pick _ _ false _ rfl rfl),
        st_plain rfl (op_move _ _ _ _ rfl rfl),
        st_skip 43 69 _ true rfl rfl rfl rfl (List.Mem.head _),
        st_skip 43 69 _ true rfl rfl rfl rfl (List.Mem.head _),
        st_skip 43 69 _ true rfl rfl rfl rfl (List.Mem.head _),
        st_plain rfl (op_pick _ _ false _ rfl rfl),
        st_plain rfl (op_assign _ _ _ _ rfl rfl),
        trivial⟩ ?_
       exact hl11 _ (Option.some.inj h).symm
     ·refine ht_seqR hn (El := (_ :: _ :: _ :: _ :: _ :: _ :: _ :: _ :: (26, .v (.int .i64 v1.2)) :: (27, .v (.bool (v1.2 == 0))) :: (28, .v (.bool true)) :: (29, .v (.int .i64 v2.2)) :: (30, .v (.bool (v2.2 == 0))) :: (31, .v (.bool (v2.2 == 0))) :: (32, .v (.bool true)) :: (33, .v (.int .i64 v3.2)) :: (34, .v (.bool (v3.2 == 0))) :: (35, .v (.bool (v3.2 == 0))) :: (36, .v (.bool false)) :: (37, .v undef) :: (38, .v undef) :: (39, .v (.bool false)) :: (40, .v (.bool false)) :: (41, .v undef) :: (42, .v undef) :: (43, .v undef) :: (44, .v (.bool false)) :: (45, .v (.bool false)) :: (46, .v undef) :: (47, .v undef) :: (48, .v undef) :: (49, .v (.bool false)) :: (50, .v (.bool false)) :: (51, .v undef) :: (52, .v undef) :: (53, .v (.bool false)) :: (54, .v (.bool false)) :: (55, .v undef) :: (56, .v undef) :: (57, .v (.bool false)) :: (58, .v (.bool false)) :: (59, .v undef) :: (60, .v (.bool false)) :: (61, .v (.bool false)) :: (62, .v undef) :: (63, .v undef) :: (64, .v (.bool false)) :: (65, .v (.bool false)) :: (66, .v undef) :: (67, .v undef) :: (68, .v (.bool false)) :: (69, .v (.bool false)) :: (70, .v undef) :: (71, .v undef) :: (72, .v undef) :: (73, .v (.bool false)) :: (0, .v (.bool false)) :: [])) (init := [0, 1, 2, 3, 4, 5, 6, 7]) (fin := [0, 56]) (sps := (⟨[2], [], [8], [(.slot 26)]⟩ :: ⟨[8], [], [9], [(.slot 27)]⟩ :: ⟨[9], [], [10], [(.slot 28)]⟩ :: ⟨[10, 4], [], [11], [(.slot 29)]⟩ :: ⟨[10, 11], [], [12], [(.slot 30)]⟩ :: ⟨[10, 12], [], [13], [(.slot 31)]⟩ :: ⟨[13], [], [14], [(.slot 32)]⟩ :: ⟨[14, 6], [], [15], [(.slot 33)]⟩ :: ⟨[14, 15], [], [16], [(.slot 34)]⟩ :: ⟨[14, 16], [], [17], [(.slot 35)]⟩ :: ⟨[17], [], [18], [(.slot 36)]⟩ :: ⟨[18], [], [19], [(.slot 37)]⟩ :: ⟨[18], [], [20], [(.slot 38)]⟩ :: ⟨[18], [], [21], [(.slot 39)]⟩ :: ⟨[21], [], [22], [(.slot 40)]⟩ :: ⟨[22], [], [23], [(.slot 41)]⟩ :: ⟨[22], [], [24], [(.slot 42)]⟩ :: ⟨[22], [], [25], [(.slot 43)]⟩ :: ⟨[22], [], [26], [(.slot 44)]⟩ :: ⟨[26], [], [27], [(.slot 45)]⟩ :: ⟨[27], [], [28], [(.slot 46)]⟩ :: ⟨[27], [], [29], [(.slot 47)]⟩ :: ⟨[27], [], [30], [(.slot 48)]⟩ :: ⟨[27], [], [31], [(.slot 49)]⟩ :: ⟨[31], [], [32], [(.slot 50)]⟩ :: ⟨[32], [], [33], [(.slot 51)]⟩ :: ⟨[32], [], [34], [(.slot 52)]⟩ :: ⟨[32], [], [35], [(.slot 53)]⟩ :: ⟨[35], [], [36], [(.slot 54)]⟩ :: ⟨[36], [], [37], [(.slot 55)]⟩ :: ⟨[36], [], [38], [(.slot 56)]⟩ :: ⟨[36], [], [39], [(.slot 57)]⟩ :: ⟨[39], [], [40], [(.slot 58)]⟩ :: ⟨[40], [], [41], [(.slot 59)]⟩ :: ⟨[40], [], [42], [(.slot 60)]⟩ :: ⟨[42], [], [43], [(.slot 61)]⟩ :: ⟨[43], [], [44], [(.slot 62)]⟩ :: ⟨[43], [], [45], [(.slot 63)]⟩ :: ⟨[43], [], [46], [(.slot 64)]⟩ :: ⟨[46], [], [47], [(.slot 65)]⟩ :: ⟨[47], [], [48], [(.slot 66)]⟩ :: ⟨[47], [], [49], [(.slot 67)]⟩ :: ⟨[47], [], [50], [(.slot 68)]⟩ :: ⟨[50], [], [51], [(.slot 69)]⟩ :: ⟨[51], [], [52], [(.slot 70)]⟩ :: ⟨[51], [], [53], [(.slot 71)]⟩ :: ⟨[51], [], [54], [(.slot 72)]⟩ :: ⟨[51], [], [55], [(.slot 73)]⟩ :: ⟨[55], [], [56], [(.slot 0)]⟩ :: [])) (es' := [(_, _), (0, .v (.bool false))]) (by kernel_rfl) rfl rfl
       ⟨st_plain rfl (op_move _ _ _ _ rfl rfl),
       st_plain rfl (op_bin _ _ _ _ _ rfl rfl rfl),
       st_plain rfl (op_move _ _ _ _ (congrArg (fun b => AV.v (Value.bool b)) hg5_2) rfl),
       st_run 2 28 true rfl rfl rfl (List.Mem.head _) (op_move _ _ _ _ rfl rfl),
       st_run 2 28 true rfl rfl rfl (List.Mem.head _) (op_bin _ _ _ _ _ rfl rfl rfl),
       st_plain rfl (op_pick _ _ true _ rfl rfl),
       st_plain rfl (op_move _ _ _ _ (congrArg (fun b => AV.v (Value.bool b)) hg5_6) rfl),
       st_run 6 32 true rfl rfl rfl (List.Mem.head _) (op_move _ _ _ _ rfl rfl),
       st_run 6 32 true rfl rfl rfl (List.Mem.head _) (op_bin _ _ _ _ _ rfl rfl rfl),
       st_plain rfl (op_pick _ _ true _ rfl rfl),
       st_plain rfl (op_move _ _ _ _ (congrArg (fun b => AV.v (Value.bool b)) hg5_10) rfl),
       st_skip 10 36 _ true rfl rfl rfl rfl (List.Mem.head _),
       st_skip 10 36 _ true rfl rfl rfl rfl (List.Mem.head _),
       st_plain rfl (op_pick _ _ false _ rfl rfl),
       st_plain rfl (op_move _ _ _ _ rfl rfl),
       st_skip 14 40 _ true rfl rfl rfl rfl (List.Mem.head _),
       st_skip 14 40 _ true rfl rfl rfl rfl (List.Mem.head _),
       st_skip 14 40 _ true rfl rfl rfl rfl (List.Mem.head _),
       st_plain rfl (op_pick _ _ false _ rfl rfl),
       st_plain rfl (op_move _ _ _ _ rfl rfl),
       st_skip 19 45 _ true rfl rfl rfl rfl (List.Mem.head _),
       st_skip 19 45 _ true rfl rfl rfl rfl (List.Mem.head _),
       st_skip 19 45 _ true rfl rfl rfl rfl (List.Mem.head _),
       st_plain rfl (op_pick _ _ false _ rfl rfl),
       st_plain rfl (op_move _ _ _ _ rfl rfl),
       st_skip 24 50 _ true rfl rfl rfl rfl (List.Mem.head _),
       st_skip 24 50 _ true rfl rfl rfl rfl (List.Mem.head _),
       st_plain rfl (op_pick _ _ false _ rfl rfl),
       st_plain rfl (op_move _ _ _ _ rfl rfl),
       st_skip 28 54 _ true rfl rfl rfl rfl (List.Mem.head _),
       st_skip 28 54 _ true rfl rfl rfl rfl (List.Mem.head _),
       st_plain rfl (op_pick _ _ false _ rfl rfl),
       st_plain rfl (op_move _ _ _ _ rfl rfl),
       st_skip 32 58 _ true rfl rfl rfl rfl (List.Mem.head _),
       st_plain rfl (op_pick _ _ false _ rfl rfl),
       st_plain rfl (op_move _ _ _ _ rfl rfl),
       st_skip 35 61 _ true rfl rfl rfl rfl (List.Mem.head _),
       st_skip 35 61 _ true rfl rfl rfl rfl (List.Mem.head _),
       st_plain rfl (op_pick _ _ false _ rfl rfl),
       st_plain rfl (op_move _ _ _ _ rfl rfl),
       st_skip 39 65 _ true rfl rfl rfl rfl (List.Mem.head _),
       st_skip 39 65 _ true rfl rfl rfl rfl (List.Mem.head _),
       st_plain rfl (op_pick _ _ false _ rfl rfl),
       st_plain rfl (op_move _ _ _ _ rfl rfl),
       st_skip 43 69 _ true rfl rfl rfl rfl (List.Mem.head _),
       st_skip 43 69 _ true rfl rfl rfl rfl (List.Mem.head _),
       st_skip 43 69 _ true rfl rfl rfl rfl (List.Mem.head _),
       st_plain rfl (op_pick _ _ false _ rfl rfl),
       st_plain rfl (op_assign _ _ _ _ rfl rfl),
       trivial⟩ ?_
      exact hl11 _ (Option.some.inj h).symm
    ·refine ht_seqR hn (El := (_ :: _ :: _ :: _ :: _ :: _ :: _ :: _ :: (26, .v (.int .i64 v1.2)) :: (27, .v (.bool (v1.2 == 0))) :: (28, .v (.bool true)) :: (29, .v (.int .i64 v2.2)) :: (30, .v (.bool (v2.2 == 0))) :: (31, .v (.bool (v2.2 == 0))) :: (32, .v (.bool false)) :: (33, .v undef) :: (34, .v undef) :: (35, .v (.bool false)) :: (36, .v (.bool false)) :: (37, .v undef) :: (38, .v undef) :: (39, .v (.bool false)) :: (40, .v (.bool false)) :: (41, .v undef) :: (42, .v undef) :: (43, .v undef) :: (44, .v (.bool false)) :: (45, .v (.bool false)) :: (46, .v undef) :: (47, .v undef) :: (48, .v undef) :: (49, .v (.bool false)) :: (50, .v (.bool false)) :: (51, .v undef) :: (52, .v undef) :: (53, .v (.bool false)) :: (54, .v (.bool false)) :: (55, .v undef) :: (56, .v undef) :: (57, .v (.bool false)) :: (58, .v (.bool false)) :: (59, .v undef) :: (60, .v (.bool false)) :: (61, .v (.bool false)) :: (62, .v undef) :: (63, .v undef) :: (64, .v (.bool false)) :: (65, .v (.bool false)) :: (66, .v undef) :: (67, .v undef) :: (68, .v (.bool false)) :: (69, .v (.bool false)) :: (70, .v undef) :: (71, .v undef) :: (72, .v undef) :: (73, .v (.bool false)) :: (0, .v (.bool false)) :: [])) (init := [0, 1, 2, 3, 4, 5, 6, 7]) (fin := [0, 56]) (sps := (⟨[2], [], [8], [(.slot 26)]⟩ :: ⟨[8], [], [9], [(.slot 27)]⟩ :: ⟨[9], [], [10], [(.slot 28)]⟩ :: ⟨[10, 4], [], [11], [(.slot 29)]⟩ :: ⟨[10, 11], [], [12], [(.slot 30)]⟩ :: ⟨[10, 12], [], [13], [(.slot 31)]⟩ :: ⟨[13], [], [14], [(.slot 32)]⟩ :: ⟨[14], [], [15], [(.slot 33)]⟩ :: ⟨[14], [], [16], [(.slot 34)]⟩ :: ⟨[14], [], [17], [(.slot 35)]⟩ :: ⟨[17], [], [18], [(.slot 36)]⟩ :: ⟨[18], [], [19], [(.slot 37)]⟩ :: ⟨[18], [], [20], [(.slot 38)]⟩ :: ⟨[18], [], [21], [(.slot 39)]⟩ :: ⟨[21], [], [22], [(.slot 40)]⟩ :: ⟨[22], [], [23], [(.slot 41)]⟩ :: ⟨[22], [], [24], [(.slot 42)]⟩ :: ⟨[22], [], [25], [(.slot 43)]⟩ :: ⟨[22], [], [26], [(.slot 44)]⟩ :: ⟨[26], [], [27], [(.slot 45)]⟩ :: ⟨[27], [], [28], [(.slot 46)]⟩ :: ⟨[27], [], [29], [(.slot 47)]⟩ :: ⟨[27], [], [30], [(.slot 48)]⟩ :: ⟨[27], [], [31], [(.slot 49)]⟩ :: ⟨[31], [], [32], [(.slot 50)]⟩ :: ⟨[32], [], [33], [(.slot 51)]⟩ :: ⟨[32], [], [34], [(.slot 52)]⟩ :: ⟨[32], [], [35], [(.slot 53)]⟩ :: ⟨[35], [], [36], [(.slot 54)]⟩ :: ⟨[36], [], [37], [(.slot 55)]⟩ :: ⟨[36], [], [38], [(.slot 56)]⟩ :: ⟨[36], [], [39], [(.slot 57)]⟩ :: ⟨[39], [], [40], [(.slot 58)]⟩ :: ⟨[40], [], [41], [(.slot 59)]⟩ :: ⟨[40], [], [42], [(.slot 60)]⟩ :: ⟨[42], [], [43], [(.slot 61)]⟩ :: ⟨[43], [], [44], [(.slot 62)]⟩ :: ⟨[43], [], [45], [(.slot 63)]⟩ :: ⟨[43], [], [46], [(.slot 64)]⟩ :: ⟨[46], [], [47], [(.slot 65)]⟩ :: ⟨[47], [], [48], [(.slot 66)]⟩ :: ⟨[47], [], [49], [(.slot 67)]⟩ :: ⟨[47], [], [50], [(.slot 68)]⟩ :: ⟨[50], [], [51], [(.slot 69)]⟩ :: ⟨[51], [], [52], [(.slot 70)]⟩ :: ⟨[51], [], [53], [(.slot 71)]⟩ :: ⟨[51], [], [54], [(.slot 72)]⟩ :: ⟨[51], [], [55], [(.slot 73)]⟩ :: ⟨[55], [], [56], [(.slot 0)]⟩ :: [])) (es' := [(_, _), (0, .v (.bool false))]) (by kernel_rfl) rfl rfl
      ⟨st_plain rfl (op_move _ _ _ _ rfl rfl),
      st_plain rfl (op_bin _ _ _ _ _ rfl rfl rfl),
      st_plain rfl (op_move _ _ _ _ (congrArg (fun b => AV.v (Value.bool b)) hg5_2) rfl),
      st_run 2 28 true rfl rfl rfl (List.Mem.head _) (op_move _ _ _ _ rfl rfl),
      st_run 2 28 true rfl rfl rfl (List.Mem.head _) (op_bin _ _ _ _ _ rfl rfl rfl),
      st_plain rfl (op_pick _ _ true _ rfl rfl),
      st_plain rfl (op_move _ _ _ _ (congrArg (fun b => AV.v (Value.bool b)) hg5_6) rfl),
      st_skip 6 32 _ true rfl rfl rfl rfl (List.Mem.head _),
      st_skip 6 32 _ true rfl rfl rfl rfl (List.Mem.head _),
      st_plain rfl (op_pick _ _ false _ rfl rfl),
      st_plain rfl (op_move _ _ _ _ rfl rfl),
      st_skip 10 36 _ true rfl rfl rfl rfl (List.Mem.head _),
      st_skip 10 36 _ true rfl rfl rfl rfl (List.Mem.head _),
      st_plain rfl (op_pick _ _ false _ rfl rfl),
      st_plain rfl (op_move _ _ _ _ rfl rfl),
      st_skip 14 40 _ true rfl rfl rfl rfl (List.Mem.head _),
      st_skip 14 40 _ true rfl rfl rfl rfl (List.Mem.head _),
      st_skip 14 40 _ true rfl rfl rfl rfl (List.Mem.head _),
      st_plain rfl (op_pick _ _ false _ rfl rfl),
      st_plain rfl (op_move _ _ _ _ rfl rfl),
      st_skip 19 45 _ true rfl rfl rfl rfl (List.Mem.head _),
      st_skip 19 45 _ true rfl rfl rfl rfl (List.Mem.head _),
      st_skip 19 45 _ true rfl rfl rfl rfl (List.Mem.head _),
      st_plain rfl (op_pick _ _ false _ rfl rfl),
      st_plain rfl (op_move _ _ _ _ rfl rfl),
      st_skip 24 50 _ true rfl rfl rfl rfl (List.Mem.head _),
      st_skip 24 50 _ true rfl rfl rfl rfl (List.Mem.head _),
      st_plain rfl (op_pick _ _ false _ rfl rfl),
      st_plain rfl (op_move _ _ _ _ rfl rfl),
      st_skip 28 54 _ true rfl rfl rfl rfl (List.Mem.head _),
      st_skip 28 54 _ true rfl rfl rfl rfl (List.Mem.head _),
      st_plain rfl (op_pick _ _ false _ rfl rfl),
      st_plain rfl (op_move _ _ _ _ rfl rfl),
      st_skip 32 58 _ true rfl rfl rfl rfl (List.Mem.head _),
      st_plain rfl (op_pick _ _ false _ rfl rfl),
      st_plain rfl (op_move _ _ _ _ rfl rfl),
      st_skip 35 61 _ true rfl rfl rfl rfl (List.Mem.head _),
      st_skip 35 61 _ true rfl rfl rfl rfl (List.Mem.head _),
      st_plain rfl (op_pick _ _ false _ rfl rfl),
      st_plain rfl (op_move _ _ _ _ rfl rfl),
      st_skip 39 65 _ true rfl rfl rfl rfl (List.Mem.head _),
      st_skip 39 65 _ true rfl rfl rfl rfl (List.Mem.head _),
      st_plain rfl (op_pick _ _ false _ rfl rfl),
      st_plain rfl (op_move _ _ _ _ rfl rfl),
      st_skip 43 69 _ true rfl rfl rfl rfl (List.Mem.head _),
      st_skip 43 69 _ true rfl rfl rfl rfl (List.Mem.head _),
      st_skip 43 69 _ true rfl rfl rfl rfl (List.Mem.head _),
      st_plain rfl (op_pick _ _ false _ rfl rfl),
      st_plain rfl (op_assign _ _ _ _ rfl rfl),
      trivial⟩ ?_
     exact hl11 _ (Option.some.inj h).symm
   ·refine ht_seqR hn (El := (_ :: _ :: _ :: _ :: _ :: _ :: _ :: _ :: (26, .v (.int .i64 v1.2)) :: (27, .v (.bool (v1.2 == 0))) :: (28, .v (.bool false)) :: (29, .v undef) :: (30, .v undef) :: (31, .v (.bool false)) :: (32, .v (.bool false)) :: (33, .v undef) :: (34, .v undef) :: (35, .v (.bool false)) :: (36, .v (.bool false)) :: (37, .v undef) :: (38, .v undef) :: (39, .v (.bool false)) :: (40, .v (.bool false)) :: (41, .v undef) :: (42, .v undef) :: (43, .v undef) :: (44, .v (.bool false)) :: (45, .v (.bool false)) :: (46, .v undef) :: (47, .v undef) :: (48, .v undef) :: (49, .v (.bool false)) :: (50, .v (.bool false)) :: (51, .v undef) :: (52, .v undef) :: (53, .v (.bool false)) :: (54, .v (.bool false)) :: (55, .v undef) :: (56, .v undef) :: (57, .v (.bool false)) :: (58, .v (.bool false)) :: (59, .v undef) :: (60, .v (.bool false)) :: (61, .v (.bool false)) :: (62, .v undef) :: (63, .v undef) :: (64, .v (.bool false)) :: (65, .v (.bool false)) :: (66, .v undef) :: (67, .v undef) :: (68, .v (.bool false)) :: (69, .v (.bool false)) :: (70, .v undef) :: (71, .v undef) :: (72, .v undef) :: (73, .v (.bool false)) :: (0, .v (.bool false)) :: [])) (init := [0, 1, 2, 3, 4, 5, 6, 7]) (fin := [0, 56]) (sps := (⟨[2], [], [8], [(.slot 26)]⟩ :: ⟨[8], [], [9], [(.slot 27)]⟩ :: ⟨[9], [], [10], [(.slot 28)]⟩ :: ⟨[10], [], [11], [(.slot 29)]⟩ :: ⟨[10], [], [12], [(.slot 30)]⟩ :: ⟨[10], [], [13], [(.slot 31)]⟩ :: ⟨[13], [], [14], [(.slot 32)]⟩ :: ⟨[14], [], [15], [(.slot 33)]⟩ :: ⟨[14], [], [16], [(.slot 34)]⟩ :: ⟨[14], [], [17], [(.slot 35)]⟩ :: ⟨[17], [], [18], [(.slot 36)]⟩ :: ⟨[18], [], [19], [(.slot 37)]⟩ :: ⟨[18], [], [20], [(.slot 38)]⟩ :: ⟨[18], [], [21], [(.slot 39)]⟩ :: ⟨[21], [], [22], [(.slot 40)]⟩ :: ⟨[22], [], [23], [(.slot 41)]⟩ :: ⟨[22], [], [24], [(.slot 42)]⟩ :: ⟨[22], [], [25], [(.slot 43)]⟩ :: ⟨[22], [], [26], [(.slot 44)]⟩ :: ⟨[26], [], [27], [(.slot 45)]⟩ :: ⟨[27], [], [28], [(.slot 46)]⟩ :: ⟨[27], [], [29], [(.slot 47)]⟩ :: ⟨[27], [], [30], [(.slot 48)]⟩ :: ⟨[27], [], [31], [(.slot 49)]⟩ :: ⟨[31], [], [32], [(.slot 50)]⟩ :: ⟨[32], [], [33], [(.slot 51)]⟩ :: ⟨[32], [], [34], [(.slot 52)]⟩ :: ⟨[32], [], [35], [(.slot 53)]⟩ :: ⟨[35], [], [36], [(.slot 54)]⟩ :: ⟨[36], [], [37], [(.slot 55)]⟩ :: ⟨[36], [], [38], [(.slot 56)]⟩ :: ⟨[36], [], [39], [(.slot 57)]⟩ :: ⟨[39], [], [40], [(.slot 58)]⟩ :: ⟨[40], [], [41], [(.slot 59)]⟩ :: ⟨[40], [], [42], [(.slot 60)]⟩ :: ⟨[42], [], [43], [(.slot 61)]⟩ :: ⟨[43], [], [44], [(.slot 62)]⟩ :: ⟨[43], [], [45], [(.slot 63)]⟩ :: ⟨[43], [], [46], [(.slot 64)]⟩ :: ⟨[46], [], [47], [(.slot 65)]⟩ :: ⟨[47], [], [48], [(.slot 66)]⟩ :: ⟨[47], [], [49], [(.slot 67)]⟩ :: ⟨[47], [], [50], [(.slot 68)]⟩ :: ⟨[50], [], [51], [(.slot 69)]⟩ :: ⟨[51], [], [52], [(.slot 70)]⟩ :: ⟨[51], [], [53], [(.slot 71)]⟩ :: ⟨[51], [], [54], [(.slot 72)]⟩ :: ⟨[51], [], [55], [(.slot 73)]⟩ :: ⟨[55], [], [56], [(.slot 0)]⟩ :: [])) (es' := [(_, _), (0, .v (.bool false))]) (by kernel_rfl) rfl rfl
     ⟨st_plain rfl (op_move _ _ _ _ rfl rfl),
     st_plain rfl (op_bin _ _ _ _ _ rfl rfl rfl),
     st_plain rfl (op_move _ _ _ _ (congrArg (fun b => AV.v (Value.bool b)) hg5_2) rfl),
     st_skip 2 28 _ true rfl rfl rfl rfl (List.Mem.head _),
     st_skip 2 28 _ true rfl rfl rfl rfl (List.Mem.head _),
     st_plain rfl (op_pick _ _ false _ rfl rfl),
     st_plain rfl (op_move _ _ _ _ rfl rfl),
     st_skip 6 32 _ true rfl rfl rfl rfl (List.Mem.head _),
     st_skip 6 32 _ true rfl rfl rfl rfl (List.Mem.head _),
     st_plain rfl (op_pick _ _ false _ rfl rfl),
     st_plain rfl (op_move _ _ _ _ rfl rfl),
     st_skip 10 36 _ true rfl rfl rfl rfl (List.Mem.head _),
     st_skip 10 36 _ true rfl rfl rfl rfl (List.Mem.head _),
     st_plain rfl (op_pick _ _ false _ rfl rfl),
     st_plain rfl (op_move _ _ _ _ rfl rfl),
     st_skip 14 40 _ true rfl rfl rfl rfl (List.Mem.head _),
     st_skip 14 40 _ true rfl rfl rfl rfl (List.Mem.head _),
     st_skip 14 40 _ true rfl rfl rfl rfl (List.Mem.head _),
     st_plain rfl (op_pick _ _ false _ rfl rfl),
     st_plain rfl (op_move _ _ _ _ rfl rfl),
     st_skip 19 45 _ true rfl rfl rfl rfl (List.Mem.head _),
     st_skip 19 45 _ true rfl rfl rfl rfl (List.Mem.head _),
     st_skip 19 45 _ true rfl rfl rfl rfl (List.Mem.head _),
     st_plain rfl (op_pick _ _ false _ rfl rfl),
     st_plain rfl (op_move _ _ _ _ rfl rfl),
     st_skip 24 50 _ true rfl rfl rfl rfl (List.Mem.head _),
     st_skip 24 50 _ true rfl rfl rfl rfl (List.Mem.head _),
     st_plain rfl (op_pick _ _ false _ rfl rfl),
     st_plain rfl (op_move _ _ _ _ rfl rfl),
     st_skip 28 54 _ true rfl rfl rfl rfl (List.Mem.head _),
     st_skip 28 54 _ true rfl rfl rfl rfl (List.Mem.head _),
     st_plain rfl (op_pick _ _ false _ rfl rfl),
     st_plain rfl (op_move _ _ _ _ rfl rfl),
     st_skip 32 58 _ true rfl rfl rfl rfl (List.Mem.head _),
     st_plain rfl (op_pick _ _ false _ rfl rfl),
     st_plain rfl (op_move _ _ _ _ rfl rfl),
     st_skip 35 61 _ true rfl rfl rfl rfl (List.Mem.head _),
     st_skip 35 61 _ true rfl rfl rfl rfl (List.Mem.head _),
     st_plain rfl (op_pick _ _ false _ rfl rfl),
     st_plain rfl (op_move _ _ _ _ rfl rfl),
     st_skip 39 65 _ true rfl rfl rfl rfl (List.Mem.head _),
     st_skip 39 65 _ true rfl rfl rfl rfl (List.Mem.head _),
     st_plain rfl (op_pick _ _ false _ rfl rfl),
     st_plain rfl (op_move _ _ _ _ rfl rfl),
     st_skip 43 69 _ true rfl rfl rfl rfl (List.Mem.head _),
     st_skip 43 69 _ true rfl rfl rfl rfl (List.Mem.head _),
     st_skip 43 69 _ true rfl rfl rfl rfl (List.Mem.head _),
     st_plain rfl (op_pick _ _ false _ rfl rfl),
     st_plain rfl (op_assign _ _ _ _ rfl rfl),
     trivial⟩ ?_
    exact hl11 _ (Option.some.inj h).symm

set_option maxHeartbeats 1000000 in
theorem ok_wherrykeep_Path (a : T_Path) (b : T_Path) (r : Bool) (h : Sh.wherrykeep_Path a b = some r) : FnOK Tryd.prog 16 [.agg [.v (.bool a.Null), .v (.string a.Local), .v (.string a.Domain)], .agg [.v (.bool b.Null), .v (.string b.Local), .v (.string b.Domain)]] (.v (.bool r)) := by
  unfold Sh.wherrykeep_Path at h
  refine fn_ok Tryd.func16 rfl (Nat.le_of_ble_eq_true rfl) rfl rfl fun g0 hn hio => ?_
  refine ht_seq ?_
  refine ht_seqR hn (El := [_, _, (2, .box 23 [.v (.bool a.Null), .v (.string a.Local), .v (.string a.Domain)]), (3, .box 23 [.v (.bool b.Null), .v (.string b.Local), .v (.string b.Domain)]), (4, .v (.bool false))]) (init := [0, 1]) (fin := [2, 3]) (sps := [⟨[0], [], [2], [(.slot 2)]⟩, ⟨[1], [], [3], [(.slot 3)]⟩, ⟨[], [], [4], [(.slot 4)]⟩]) (es' := [(2, .box 23 [.v (.bool a.Null), .v (.string a.Local), .v (.string a.Domain)]), (3, .box 23 [.v (.bool b.Null), .v (.string b.Local), .v (.string b.Domain)])]) (by kernel_rfl) rfl rfl
   ⟨st_plain rfl (op_box _ _ _ _ rfl rfl rfl),
   st_plain rfl (op_box _ _ _ _ rfl rfl rfl),
   st_plain rfl (op_assign _ _ _ _ rfl rfl),
   trivial⟩ ?_
  refine pt_then ?_
  refine ht_seq ?_
  refine ht_joinS h (fun (s2 : Bool) => [(4, .v (.bool s2))]) ?_ ?_
  ·rintro s2 h
   refine pt_then ?_
   refine ht_ret ?_
   obtain rfl := Option.some.inj h
   exact pt_ret hio rfl (.tmp _ _ .nil) rfl rfl
  ·intro u3 h hl4 hr5
   obtain ⟨v1, hv1, h⟩ := bind_some h
   refine cond_some h (fun hg1_5 h => ?_) (fun hg1_5 h => ?_)
   ·refine cond_some h (fun hg1_12 h => ?_) (fun hg1_12 h => ?_)
    ·refine ht_seqR hn (El := (_ :: _ :: (5, .ptr 2 0) :: (6, .v (.bool a.Null)) :: (7, .ptr 3 0) :: (8, .v (.bool b.Null)) :: (9, .v (.bool (a.Null == b.Null))) :: (10, .v (.bool true)) :: (11, .ptr 2 1) :: (12, .v (.string a.Local)) :: (13, .ptr 3 1) :: (14, .v (.string b.Local)) :: (15, .v (.bool (a.Local.toList == b.Local.toList))) :: (16, .v (.bool (a.Local.toList == b.Local.toList))) :: (17, .v (.bool true)) :: (18, .ptr 2 2) :: (19, .v (.string a.Domain)) :: (20, .ptr 3 2) :: (21, .v (.string b.Domain)) :: (22, .v (.bool (a.Domain.toList == b.Domain.toList))) :: (23, .v (.bool (a.Domain.toList == b.Domain.toList))) :: (4, .v (.bool (a.Domain.toList == b.Domain.toList))) :: [])) (init := [0, 1]) (fin := [21]) (sps := (⟨[0], [], [2], [(.slot 5)]⟩ :: ⟨[2, 0], [], [3], [(.slot 6)]⟩ :: ⟨[1], [], [4], [(.slot 7)]⟩ :: ⟨[4, 1], [], [5], [(.slot 8)]⟩ :: ⟨[3, 5], [], [6], [(.slot 9)]⟩ :: ⟨[6], [], [7], [(.slot 10)]⟩ :: ⟨[7, 0], [], [8], [(.slot 11)]⟩ :: ⟨[7, 8, 0], [], [9], [(.slot 12)]⟩ :: ⟨[7, 1], [], [10], [(.slot 13)]⟩ :: ⟨[7, 10, 1], [], [11], [(.slot 14)]⟩ :: ⟨[7, 9, 11], [], [12], [(.slot 15)]⟩ :: ⟨[7, 12], [], [13], [(.slot 16)]⟩ :: ⟨[13], [], [14], [(.slot 17)]⟩ :: ⟨[14, 0], [], [15], [(.slot 18)]⟩ :: ⟨[14, 15, 0], [], [16], [(.slot 19)]⟩ :: ⟨[14, 1], [], [17], [(.slot 20)]⟩ :: ⟨[14, 17, 1], [], [18], [(.slot 21)]⟩ :: ⟨[14, 16, 18], [], [19], [(.slot 22)]⟩ :: ⟨[14, 19], [], [20], [(.slot 23)]⟩ :: ⟨[20], [], [21], [(.slot 4)]⟩ :: [])) (es' := [(4, .v (.bool (a.Domain.toList == b.Domain.toList)))]) (by kernel_rfl) rfl rfl
      ⟨st_plain rfl (op_fieldAddr _ _ _ _ 2 0 _ Tryd.underlying23 rfl sz4 rfl rfl (by decide)),
      st_plain rfl (op_load _ _ _ _ _ _ Tryd.underlying4 rfl rfl rfl (Nat.le_of_ble_eq_true rfl) rfl rfl rfl),
      st_plain rfl (op_fieldAddr _ _ _ _ 3 0 _ Tryd.underlying23 rfl sz4 rfl rfl (by decide)),
      st_plain rfl (op_load _ _ _ _ _ _ Tryd.underlying4 rfl rfl rfl (Nat.le_of_ble_eq_true rfl) rfl rfl rfl),
      st_plain rfl (op_beq _ _ _ _ Tryd.underlying4 rfl rfl),
      st_plain rfl (op_move _ _ _ _ (congrArg (fun b => AV.v (Value.bool b)) hg1_5) rfl),
      st_run 5 10 true rfl rfl rfl (List.Mem.head _) (op_fieldAddr _ _ _ _ 2 0 _ Tryd.underlying23 rfl sz9 rfl rfl (by decide)),
      st_run 5 10 true rfl rfl rfl (List.Mem.head _) (op_load _ _ _ _ _ _ Tryd.underlying9 rfl rfl rfl (Nat.le_of_ble_eq_true rfl) rfl rfl rfl),
      st_run 5 10 true rfl rfl rfl (List.Mem.head _) (op_fieldAddr _ _ _ _ 3 0 _ Tryd.underlying23 rfl sz9 rfl rfl (by decide)),
      st_run 5 10 true rfl rfl rfl (List.Mem.head _) (op_load _ _ _ _ _ _ Tryd.underlying9 rfl rfl rfl (Nat.le_of_ble_eq_true rfl) rfl rfl rfl),
      st_run 5 10 true rfl rfl rfl (List.Mem.head _) (op_bin _ _ _ _ _ rfl rfl rfl),
      st_plain rfl (op_pick _ _ true _ rfl rfl),
      st_plain rfl (op_move _ _ _ _ (congrArg (fun b => AV.v (Value.bool b)) hg1_12) rfl),
      st_run 12 17 true rfl rfl rfl (List.Mem.head _) (op_fieldAddr _ _ _ _ 2 0 _ Tryd.underlying23 rfl sz9 rfl rfl (by decide)),
      st_run 12 17 true rfl rfl rfl (List.Mem.head _) (op_load _ _ _ _ _ _ Tryd.underlying9 rfl rfl rfl (Nat.le_of_ble_eq_true rfl) rfl rfl rfl),
      st_run 12 17 true rfl rfl rfl (List.Mem.head _) (op_fieldAddr _ _ _ _ 3 0 _ Tryd.underlying23 rfl sz9 rfl rfl (by decide)),
      st_run 12 17 true rfl rfl rfl (List.Mem.head _) (op_load _ _ _ _ _ _ Tryd.underlying9 rfl rfl rfl (Nat.le_of_ble_eq_true rfl) rfl rfl rfl),
      st_run 12 17 true rfl rfl rfl (List.Mem.head _) (op_bin _ _ _ _ _ rfl rfl rfl),
      st_plain rfl (op_pick _ _ true _ rfl rfl),
      st_plain rfl (op_assign _ _ _ _ rfl rfl),
      trivial⟩ ?_
     exact hl4 _ (Option.some.inj h).symm
    ·refine ht_seqR hn (El := (_ :: _ :: (5, .ptr 2 0) :: (6, .v (.bool a.Null)) :: (7, .ptr 3 0) :: (8, .v (.bool b.Null)) :: (9, .v (.bool (a.Null == b.Null))) :: (10, .v (.bool true)) :: (11, .ptr 2 1) :: (12, .v (.string a.Local)) :: (13, .ptr 3 1) :: (14, .v (.string b.Local)) :: (15, .v (.bool (a.Local.toList == b.Local.toList))) :: (16, .v (.bool (a.Local.toList == b.Local.toList))) :: (17, .v (.bool false)) :: (18, .v undef) :: (19, .v undef) :: (20, .v undef) :: (21, .v undef) :: (22, .v undef) :: (23, .v (.bool false)) :: (4, .v (.bool false)) :: [])) (init := [0, 1]) (fin := [21]) (sps := (⟨[0], [], [2], [(.slot 5)]⟩ :: ⟨[2, 0], [], [3], [(.slot 6)]⟩ :: ⟨[1], [], [4], [(.slot 7)]⟩ :: ⟨[4, 1], [], [5], [(.slot 8)]⟩ :: ⟨[3, 5], [], [6], [(.slot 9)]⟩ :: ⟨[6], [], [7], [(.slot 10)]⟩ :: ⟨[7, 0], [], [8], [(.slot 11)]⟩ :: ⟨[7, 8, 0], [], [9], [(.slot 12)]⟩ :: ⟨[7, 1], [], [10], [(.slot 13)]⟩ :: ⟨[7, 10, 1], [], [11], [(.slot 14)]⟩ :: ⟨[7, 9, 11], [], [12], [(.slot 15)]⟩ :: ⟨[7, 12], [], [13], [(.slot 16)]⟩ :: ⟨[13], [], [14], [(.slot 17)]⟩ :: ⟨[14], [], [15], [(.slot 18)]⟩ :: ⟨[14], [], [16], [(.slot 19)]⟩ :: ⟨[14], [], [17], [(.slot 20)]⟩ :: ⟨[14], [], [18], [(.slot 21)]⟩ :: ⟨[14], [], [19], [(.slot 22)]⟩ :: ⟨[14], [], [20], [(.slot 23)]⟩ :: ⟨[20], [], [21], [(.slot 4)]⟩ :: [])) (es' := [(4, .v (.bool false))]) (by kernel_rfl) rfl rfl
      ⟨st_plain rfl (op_fieldAddr _ _ _ _ 2 0 _ Tryd.underlying23 rfl sz4 rfl rfl (by decide)),
      st_plain rfl (op_load _ _ _ _ _ _ Tryd.underlying4 rfl rfl rfl (Nat.le_of_ble_eq_true rfl) rfl rfl rfl),
      st_plain rfl (op_fieldAddr _ _ _ _ 3 0 _ Tryd.underlying23 rfl sz4 rfl rfl (by decide)),
      st_plain rfl (op_load _ _ _ _ _ _ Tryd.underlying4 rfl rfl rfl (Nat.le_of_ble_eq_true rfl) rfl rfl rfl),
      st_plain rfl (op_beq _ _ _ _ Tryd.underlying4 rfl rfl),
      st_plain rfl (op_move _ _ _ _ (congrArg (fun b => AV.v (Value.bool b)) hg1_5) rfl),
      st_run 5 10 true rfl rfl rfl (List.Mem.head _) (op_fieldAddr _ _ _ _ 2 0 _ Tryd.underlying23 rfl sz9 rfl rfl (by decide)),
      st_run 5 10 true rfl rfl rfl (List.Mem.head _) (op_load _ _ _ _ _ _ Tryd.underlying9 rfl rfl rfl (Nat.le_of_ble_eq_true rfl) rfl rfl rfl),
      st_run 5 10 true rfl rfl rfl (List.Mem.head _) (op_fieldAddr _ _ _ _ 3 0 _ Tryd.underlying23 rfl sz9 rfl rfl (by decide)),
      st_run 5 10 true rfl rfl rfl (List.Mem.head _) (op_load _ _ _ _ _ _ Tryd.underlying9 rfl rfl rfl (Nat.le_of_ble_eq_true rfl) rfl rfl rfl),
      st_run 5 10 true rfl rfl rfl (List.Mem.head _) (op_bin _ _ _ _ _ rfl rfl rfl),
      st_plain rfl (op_pick _ _ true _ rfl rfl),
      st_plain rfl (op_move _ _ _ _ (congrArg (fun b => AV.v (Value.bool b)) hg1_12) rfl),
      st_skip 12 17 _ true rfl rfl rfl rfl (List.Mem.head _),
      st_skip 12 17 _ true rfl rfl rfl rfl (List.Mem.head _),
      st_skip 12 17 _ true rfl rfl rfl rfl (List.Mem.head _),
      st_skip 12 17 _ true rfl rfl rfl rfl (List.Mem.head _),
      st_skip 12 17 _ true rfl rfl rfl rfl (List.Mem.head _),
      st_plain rfl (op_pick _ _ false _ rfl rfl),
      st_plain rfl (op_assign _ _ _ _ rfl rfl),
      trivial⟩ ?_
     exact hl4 _ (Option.some.inj h).symm
   ·refine ht_seqR hn (El := (_ :: _ :: (5, .ptr 2 0) :: (6, .v (.bool a.Null)) :: (7, .ptr 3 0) :: (8, .v (.bool b.Null)) :: (9, .v (.bool (a.Null == b.Null))) :: (10, .v (.bool false)) :: (11, .v undef) :: (12, .v undef) :: (13, .v undef) :: (14, .v undef) :: (15, .v undef) :: (16, .v (.bool false)) :: (17, .v (.bool false)) :: (18, .v undef) :: (19, .v undef) :: (20, .v undef) :: (21, .v undef) :: (22, .v undef) :: (23, .v (.bool false)) :: (4, .v (.bool false)) :: [])) (init := [0, 1]) (fin := [21]) (sps := (⟨[0], [], [2], [(.slot 5)]⟩ :: ⟨[2, 0], [], [3], [(.slot 6)]⟩ :: ⟨[1], [], [4], [(.slot 7)]⟩ :: ⟨[4, 1], [], [5], [(.slot 8)]⟩ :: ⟨[3, 5], [], [6], [(.slot 9)]⟩ :: ⟨[6], [], [7], [(.slot 10)]⟩ :: ⟨[7], [], [8], [(.slot 11)]⟩ :: ⟨[7], [], [9], [(.slot 12)]⟩ :: ⟨[7], [], [10], [(.slot 13)]⟩ :: ⟨[7], [], [11], [(.slot 14)]⟩ :: ⟨[7], [], [12], [(.slot 15)]⟩ :: ⟨[7], [], [13], [(.slot 16)]⟩ :: ⟨[13], [], [14], [(.slot 17)]⟩ :: ⟨[14], [], [15], [(.slot 18)]⟩ :: ⟨[14], [], [16], [(.slot 19)]⟩ :: ⟨[14], [], [17], [(.slot 20)]⟩ :: ⟨[14], [], [18], [(.slot 21)]⟩ :: ⟨[14], [], [19], [(.slot 22)]⟩ :: ⟨[14], [], [20], [(.slot 23)]⟩ :: ⟨[20], [], [21], [(.slot 4)]⟩ :: [])) (es' := [(4, .v (.bool false))]) (by kernel_rfl) rfl rfl
     ⟨st_plain rfl (op_fieldAddr _ _ _ _ 2 0 _ Tryd.underlying23 rfl sz4 rfl rfl (by decide)),
     st_plain rfl (op_load _ _ _ _ _ _ Tryd.underlying4 rfl rfl rfl (Nat.le_of_ble_eq_true rfl) rfl rfl rfl),
     st_plain rfl (op_fieldAddr _ _ _ _ 3 0 _ Tryd.underlying23 rfl sz4 rfl rfl (by decide)),
     st_plain rfl (op_load _ _ _ _ _ _ Tryd.underlying4 rfl rfl rfl (Nat.le_of_ble_eq_true rfl) rfl rfl rfl),
     st_plain rfl (op_beq _ _ _ _ Tryd.underlying4 rfl rfl),
     st_plain rfl (op_move _ _ _ _ (congrArg (fun b => AV.v (Value.bool b)) hg1_5) rfl),
     st_skip 5 10 _ true rfl rfl rfl rfl (List.Mem.head _),
     st_skip 5 10 _ true rfl rfl rfl rfl (List.Mem.head _),
     st_skip 5 10 _ true rfl rfl rfl rfl (List.Mem.head _),
     st_skip 5 10 _ true rfl rfl rfl rfl (List.Mem.head _),
     st_skip 5 10 _ true rfl rfl rfl rfl (List.Mem.head _),
     st_plain rfl (op_pick _ _ false _ rfl rfl),
     st_plain rfl (op_move _ _ _ _ rfl rfl),
     st_skip 12 17 _ true rfl rfl rfl rfl (List.Mem.head _),
     st_skip 12 17 _ true rfl rfl rfl rfl (List.Mem.head _),
     st_skip 12 17 _ true rfl rfl rfl rfl (List.Mem.head _),
     st_skip 12 17 _ true rfl rfl rfl rfl (List.Mem.head _),
     st_skip 12 17 _ true rfl rfl rfl rfl (List.Mem.head _),
     st_plain rfl (op_pick _ _ false _ rfl rfl),
     st_plain rfl (op_assign _ _ _ _ rfl rfl),
     trivial⟩ ?_
    exact hl4 _ (Option.some.inj h).symm

set_option maxHeartbeats 1000000 in
theorem ok_wherryref11_in (n : Int) (lo : Int) (hi : Int) (r : Bool) (h : Sh.wherryref11_in n lo hi = some r) : FnOK Tryd.prog 34 [.v (.int .i64 n), .v (.int .i64 lo), .v (.int .i64 hi)] (.v (.bool r)) := by
  unfold Sh.wherryref11_in at h
  refine fn_ok Tryd.func34 rfl (Nat.le_of_ble_eq_true rfl) rfl rfl fun g0 hn hio => ?_
  refine ht_seq ?_
  refine ht_seqR hn (El := [_, _, _, (6, .v (.bool false))]) (init := [0, 1, 2]) (fin := [0, 1, 2]) (sps := [⟨[], [], [3], [(.slot 6)]⟩]) (es' := [(_, _), (_, _), (_, _)]) (by kernel_rfl) rfl rfl
   ⟨st_plain rfl (op_assign _ _ _ _ rfl rfl),
   trivial⟩ ?_
  refine pt_then ?_
  refine ht_seq ?_
  refine ht_joinS h (fun (s1 : Bool) => [(6, .v (.bool s1))]) ?_ ?_
  ·rintro s1 h
   refine pt_then ?_
   refine ht_ret ?_
   obtain rfl := Option.some.inj h
   exact pt_ret hio rfl (.tmp _ _ .nil) rfl rfl
  ·intro u2 h hl3 hr4
   refine cond_some h (fun hg1_3 h => ?_) (fun hg1_3 h => ?_)
   ·refine ht_seqR hn (El := [_, _, _, (7, .v (.int .i64 n)), (8, .v (.int .i64 lo)), (9, .v (.bool ((decide (lo ≤ n))))), (10, .v (.bool true)), (11, .v (.int .i64 n)), (12, .v (.int .i64 hi)), (13, .v (.bool ((decide (n ≤ hi))))), (14, .v (.bool ((decide (n ≤ hi))))), (6, .v (.bool ((decide (n ≤ hi)))))]) (init := [0, 1, 2]) (fin := [11]) (sps := [⟨[0], [], [3], [(.slot 7)]⟩, ⟨[1], [], [4], [(.slot 8)]⟩, ⟨[3, 4], [], [5], [(.slot 9)]⟩, ⟨[5], [], [6], [(.slot 10)]⟩, ⟨[6, 0], [], [7], [(.slot 11)]⟩, ⟨[6, 2], [], [8], [(.slot 12)]⟩, ⟨[6, 7, 8], [], [9], [(.slot 13)]⟩, ⟨[6, 9], [], [10], [(.slot 14)]⟩, ⟨[10], [], [11], [(.slot 6)]⟩]) (es' := [(6, .v (.bool ((decide (n ≤ hi)))))]) (by kernel_rfl) rfl rfl
     ⟨st_plain rfl (op_move _ _ _ _ rfl rfl),
     st_plain rfl (op_move _ _ _ _ rfl rfl),
     st_plain rfl (op_bin _ _ _ _ _ rfl rfl rfl),
     st_plain rfl (op_move _ _ _ _ (congrArg (fun b => AV.v (Value.bool b)) hg1_3) rfl),
     st_run 3 10 true rfl rfl rfl (List.Mem.head _) (op_move _ _ _ _ rfl rfl),
     st_run 3 10 true rfl rfl rfl (List.Mem.head _) (op_move _ _ _ _ rfl rfl),
     st_run 3 10 true rfl rfl rfl (List.Mem.head _) (op_bin _ _ _ _ _ rfl rfl rfl),
     st_plain rfl (op_pick _ _ true _ rfl rfl),
     st_plain rfl (op_assign _ _ _ _ rfl rfl),
     trivial⟩ ?_
    exact hl3 _ (Option.some.inj h).symm
   ·refine ht_seqR hn (El := [_, _, _, (7, .v (.int .i64 n)), (8, .v (.int .i64 lo)), (9, .v (.bool ((decide (lo ≤ n))))), (10, .v (.bool false)), (11, .v undef), (12, .v undef), (13, .v undef), (14, .v (.bool false)), (6, .v (.bool false))]) (init := [0, 1, 2]) (fin := [11]) (sps := [⟨[0], [], [3], [(.slot 7)]⟩, ⟨[1], [], [4], [(.slot 8)]⟩, ⟨[3, 4], [], [5], [(.slot 9)]⟩, ⟨[5], [], [6], [(.slot 10)]⟩, ⟨[6], [], [7], [(.slot 11)]⟩, ⟨[6], [], [8], [(.slot 12)]⟩, ⟨[6], [], [9], [(.slot 13)]⟩, ⟨[6], [], [10], [(.slot 14)]⟩, ⟨[10], [], [11], [(.slot 6)]⟩]) (es' := [(6, .v (.bool false))]) (by kernel_rfl) rfl rfl
     ⟨st_plain rfl (op_move _ _ _ _ rfl rfl),
     st_plain rfl (op_move _ _ _ _ rfl rfl),
     st_plain rfl (op_bin _ _ _ _ _ rfl rfl rfl),
     st_plain rfl (op_move _ _ _ _ (congrArg (fun b => AV.v (Value.bool b)) hg1_3) rfl),
     st_skip 3 10 _ true rfl rfl rfl rfl (List.Mem.head _),
     st_skip 3 10 _ true rfl rfl rfl rfl (List.Mem.head _),
     st_skip 3 10 _ true rfl rfl rfl rfl (List.Mem.head _),
     st_plain rfl (op_pick _ _ false _ rfl rfl),
     st_plain rfl (op_assign _ _ _ _ rfl rfl),
     trivial⟩ ?_
    exact hl3 _ (Option.some.inj h).symm

set_option maxHeartbeats 1000000 in
theorem ok_wherryref11_letter (c : Int) (r : Bool) (h : Sh.wherryref11_letter c = some r) : FnOK Tryd.prog 35 [.v (.int .u8 c)] (.v (.bool r)) := by
  unfold Sh.wherryref11_letter at h
  refine fn_ok Tryd.func35 rfl (Nat.le_of_ble_eq_true rfl) rfl rfl fun g0 hn hio => ?_
  refine ht_seq ?_
  refine ht_seqR hn (El := [_, (2, .v (.bool false))]) (init := [0]) (fin := [0]) (sps := [⟨[], [], [1], [(.slot 2)]⟩]) (es' := [(_, _)]) (by kernel_rfl) rfl rfl
   ⟨st_plain rfl (op_assign _ _ _ _ rfl rfl),
   trivial⟩ ?_
  refine pt_then ?_
  refine ht_seq ?_
  refine ht_joinS h (fun (s1 : Bool) => [(2, .v (.bool s1))]) ?_ ?_
  ·rintro s1 h
   refine pt_then ?_
   refine ht_ret ?_
   obtain rfl := Option.some.inj h
   exact pt_ret hio rfl (.tmp _ _ .nil) rfl rfl
  ·intro u2 h hl3 hr4
   refine cond_some h (fun hg1_2 h => ?_) (fun hg1_2 h => ?_)
   ·refine cond_some h (fun hg1_6 h => ?_) (fun hg1_6 h => ?_)
    ·refine ht_seqR hn (El := (_ :: (3, .v (.int .u8 c)) :: (4, .v (.bool ((decide (97 ≤ c))))) :: (5, .v (.bool true)) :: (6, .v (.int .u8 c)) :: (7, .v (.bool ((decide (c ≤ 122))))) :: (8, .v (.bool ((decide (c ≤ 122))))) :: (9, .v (.bool true)) :: (10, .v undef) :: (11, .v undef) :: (12, .v undef) :: (13, .v undef) :: (14, .v undef) :: (15, .v undef) :: (16, .v (.bool true)) :: (2, .v (.bool true)) :: [])) (init := [0]) (fin := [15]) (sps := (⟨[0], [], [1], [(.slot 3)]⟩ :: ⟨[1], [], [2], [(.slot 4)]⟩ :: ⟨[2], [], [3], [(.slot 5)]⟩ :: ⟨[3, 0], [], [4], [(.slot 6)]⟩ :: ⟨[3, 4], [], [5], [(.slot 7)]⟩ :: ⟨[3, 5], [], [6], [(.slot 8)]⟩ :: ⟨[6], [], [7], [(.slot 9)]⟩ :: ⟨[7], [], [8], [(.slot 10)]⟩ :: ⟨[7], [], [9], [(.slot 11)]⟩ :: ⟨[7], [], [10], [(.slot 12)]⟩ :: ⟨[10], [], [11], [(.slot 13)]⟩ :: ⟨[10], [], [12], [(.slot 14)]⟩ :: ⟨[7], [], [13], [(.slot 15)]⟩ :: ⟨[7], [], [14], [(.slot 16)]⟩ :: ⟨[14], [], [15], [(.slot 2)]⟩ :: [])) (es' := [(2, .v (.bool true))]) (by kernel_rfl) rfl rfl
      ⟨st_plain rfl (op_move _ _ _ _ rfl rfl),
      st_plain rfl (op_bin _ _ _ _ _ rfl rfl rfl),
      st_plain rfl (op_move _ _ _ _ (congrArg (fun b => AV.v (Value.bool b)) hg1_2) rfl),
      st_run 2 5 true rfl rfl rfl (List.Mem.head _) (op_move _ _ _ _ rfl rfl),
      st_run 2 5 true rfl rfl rfl (List.Mem.head _) (op_bin _ _ _ _ _ rfl rfl rfl),
      st_plain rfl (op_pick _ _ true _ rfl rfl),
      st_plain rfl (op_move _ _ _ _ (congrArg (fun b => AV.v (Value.bool b)) hg1_6) rfl),
      st_skip 6 9 _ false rfl rfl rfl rfl (List.Mem.head _),
      st_skip 6 9 _ false rfl rfl rfl rfl (List.Mem.head _),
      st_skip 6 9 _ false rfl rfl rfl rfl (List.Mem.head _),
      st_skipU 9 12 _ true rfl rfl rfl rfl (List.Mem.head _),
      st_skipU 9 12 _ true rfl rfl rfl rfl (List.Mem.head _),
      st_skip 6 9 _ false rfl rfl rfl rfl (List.Mem.head _),
      st_plain rfl (op_pick _ _ true _ rfl rfl),
      st_plain rfl (op_assign _ _ _ _ rfl rfl),
      trivial⟩ ?_
     exact hl3 _ (Option.some.inj h).symm
    ·refine cond_some h (fun hg1_9 h => ?_) (fun hg1_9 h => ?_)
     ·refine ht_seqR hn (El := (_ :: (3, .v (.int .u8 c)) :: (4, .v (.bool ((decide (97 ≤ c))))) :: (5, .v (.bool true)) :: (6, .v (.int .u8 c)) :: (7, .v (.bool ((decide (c ≤ 122))))) :: (8, .v (.bool ((decide (c ≤ 122))))) :: (9, .v (.bool false)) :: (10, .v (.int .u8 c)) :: (11, .v (.bool ((decide (65 ≤ c))))) :: (12, .v (.bool true)) :: (13, .v (.int .u8 c)) :: (14, .v (.bool ((decide (c ≤ 90))))) :: (15, .v (.bool ((decide (c ≤ 90))))) :: (16, .v (.bool ((decide (c ≤ 90))))) :: (2, .v (.bool ((decide (c ≤ 90))))) :: [])) (init := [0]) (fin := [15]) (sps := (⟨[0], [], [1], [(.slot 3)]⟩ :: ⟨[1], [], [2], [(.slot 4)]⟩ :: ⟨[2], [], [3], [(.slot 5)]⟩ :: ⟨[3, 0], [], [4], [(.slot 6)]⟩ :: ⟨[3, 4], [], [5], [(.slot 7)]⟩ :: ⟨[3, 5], [], [6], [(.slot 8)]⟩ :: ⟨[6], [], [7], [(.slot 9)]⟩ :: ⟨[7, 0], [], [8], [(.slot 10)]⟩ :: ⟨[7, 8], [], [9], [(.slot 11)]⟩ :: ⟨[7, 9], [], [10], [(.slot 12)]⟩ :: ⟨[10, 0], [], [11], [(.slot 13)]⟩ :: ⟨[10, 11], [], [12], [(.slot 14)]⟩ :: ⟨[7, 10, 12], [], [13], [(.slot 15)]⟩ :: ⟨[7, 13], [], [14], [(.slot 16)]⟩ :: ⟨[14], [], [15], [(.slot 2)]⟩ :: [])) (es' := [(2, .v (.bool ((decide (c ≤ 90)))))]) (by kernel_rfl) rfl rfl
       ⟨st_plain rfl (op_move _ _ _ _ rfl rfl),
       st_plain rfl (op_bin _ _ _ _ _ rfl rfl rfl),
       st_plain rfl (op_move _ _ _ _ (congrArg (fun b => AV.v (Value.bool b)) hg1_2) rfl),
       st_run 2 5 true rfl rfl rfl (List.Mem.head _) (op_move _ _ _ _ rfl rfl),
       st_run 2 5 true rfl rfl rfl (List.Mem.head _) (op_bin _ _ _ _ _ rfl rfl rfl),
       st_plain rfl (op_pick _ _ true _ rfl rfl),
       st_plain rfl (op_move _ _ _ _ (congrArg (fun b => AV.v (Value.bool b)) hg1_6) rfl),
       st_run 6 9 false rfl rfl rfl (List.Mem.head _) (op_move _ _ _ _ rfl rfl),
       st_run 6 9 false rfl rfl rfl (List.Mem.head _) (op_bin _ _ _ _ _ rfl rfl rfl),
       st_run 6 9 false rfl rfl rfl (List.Mem.head _) (op_move _ _ _ _ (congrArg (fun b => AV.v (Value.bool b)) hg1_9) rfl),
       st_run 9 12 true rfl rfl rfl (List.Mem.head _) (op_move _ _ _ _ rfl rfl),
       st_run 9 12 true rfl rfl rfl (List.Mem.head _) (op_bin _ _ _ _ _ rfl rfl rfl),
       st_run 6 9 false rfl rfl rfl (List.Mem.head _) (op_pick _ _ true _ rfl rfl),
       st_plain rfl (op_pick _ _ false _ rfl rfl),
       st_plain rfl (op_assign _ _ _ _ rfl rfl),
       trivial⟩ ?_
      exact hl3 _ (Option.some.inj h).symm
     ·refine ht_seqR hn (El := (_ :: (3, .v (.int .u8 c)) :: (4, .v (.bool ((decide (97 ≤ c))))) :: (5, .v (.bool true)) :: (6, .v (.int .u8 c)) :: (7, .v (.bool ((decide (c ≤ 122))))) :: (8, .v (.bool ((decide (c ≤ 122))))) :: (9, .v (.bool false)) :: (10, .v (.int .u8 c)) :: (11, .v (.bool ((decide (65 ≤ c))))) :: (12, .v (.bool false)) :: (13, .v undef) :: (14, .v undef) :: (15, .v (.bool false)) :: (16, .v (.bool false)) :: (2, .v (.bool false)) :: [])) (init := [0]) (fin := [15]) (sps := (⟨[0], [], [1], [(.slot 3)]⟩ :: ⟨[1], [], [2], [(.slot 4)]⟩ :: ⟨[2], [], [3], [(.slot 5)]⟩ :: ⟨[3, 0], [], [4], [(.slot 6)]⟩ :: ⟨[3, 4], [], [5], [(.slot 7)]⟩ :: ⟨[3, 5], [], [6], [(.slot 8)]⟩ :: ⟨[6], [], [7], [(.slot 9)]⟩ :: ⟨[7, 0], [], [8], [(.slot 10)]⟩ :: ⟨[7, 8], [], [9], [(.slot 11)]⟩ :: ⟨[7, 9], [], [10], [(.slot 12)]⟩ :: ⟨[10], [], [11], [(.slot 13)]⟩ :: ⟨[10], [], [12], [(.slot 14)]⟩ :: ⟨[7, 10], [], [13], [(.slot 15)]⟩ :: ⟨[7, 13], [], [14], [(.slot 16)]⟩ :: ⟨[14], [], [15], [(.slot 2)]⟩ :: [])) (es' := [(2, .v (.bool false))]) (by kernel_rfl) rfl rfl
       ⟨st_plain rfl (op_move _ _ _ _ rfl rfl),
       st_plain rfl (op_bin _ _ _ _ _ rfl rfl rfl),
       st_plain rfl (op_move _ _ _ _ (congrArg (fun b => AV.v (Value.bool b)) hg1_2) rfl),
       st_run 2 5 true rfl rfl rfl (List.Mem.head _) (op_move _ _ _ _ rfl rfl),
       st_run 2 5 true rfl rfl rfl (List.Mem.head _) (op_bin _ _ _ _ _ rfl rfl rfl),
       st_plain rfl (op_pick _ _ true _ rfl rfl),
       st_plain rfl (op_move _ _ _ _ (congrArg (fun b => AV.v (Value.bool b)) hg1_6) rfl),
       st_run 6 9 false rfl rfl rfl (List.Mem.head _) (op_move _ _ _ _ rfl rfl),
       st_run 6 9 false rfl rfl rfl (List.Mem.head _) (op_bin _ _ _ _ _ rfl rfl rfl),
       st_run 6 9 false rfl rfl rfl (List.Mem.head _) (op_move _ _ _ _ (congrArg (fun b => AV.v (Value.bool b)) hg1_9) rfl),
       st_skip 9 12 _ true rfl rfl rfl rfl (List.Mem.head _),
       st_skip 9 12 _ true rfl rfl rfl rfl (List.Mem.head _),
       st_run 6 9 false rfl rfl rfl (List.Mem.head _) (op_pick _ _ false _ rfl rfl),
       st_plain rfl (op_pick _ _ false _ rfl rfl),
       st_plain rfl (op_assign _ _ _ _ rfl rfl),
       trivial⟩ ?_
      exact hl3 _ (Option.some.inj h).symm
   ·refine cond_some h (fun hg1_9 h => ?_) (fun hg1_9 h => ?_)
    ·refine ht_seqR hn (El := (_ :: (3, .v (.int .u8 c)) :: (4, .v (.bool ((decide (97 ≤ c))))) :: (5, .v (.bool false)) :: (6, .v undef) :: (7, .v undef) :: (8, .v (.bool false)) :: (9, .v (.bool false)) :: (10, .v (.int .u8 c)) :: (11, .v (.bool ((decide (65 ≤ c))))) :: (12, .v (.bool true)) :: (13, .v (.int .u8 c)) :: (14, .v (.bool ((decide (c ≤ 90))))) :: (15, .v (.bool ((decide (c ≤ 90))))) :: (16, .v (.bool ((decide (c ≤ 90))))) :: (2, .v (.bool ((decide (c ≤ 90))))) :: [])) (init := [0]) (fin := [15]) (sps := (⟨[0], [], [1], [(.slot 3)]⟩ :: ⟨[1], [], [2], [(.slot 4)]⟩ :: ⟨[2], [], [3], [(.slot 5)]⟩ :: ⟨[3], [], [4], [(.slot 6)]⟩ :: ⟨[3], [], [5], [(.slot 7)]⟩ :: ⟨[3], [], [6], [(.slot 8)]⟩ :: ⟨[6], [], [7], [(.slot 9)]⟩ :: ⟨[7, 0], [], [8], [(.slot 10)]⟩ :: ⟨[7, 8], [], [9], [(.slot 11)]⟩ :: ⟨[7, 9], [], [10], [(.slot 12)]⟩ :: ⟨[10, 0], [], [11], [(.slot 13)]⟩ :: ⟨[10, 11], [], [12], [(.slot 14)]⟩ :: ⟨[7, 10, 12], [], [13], [(.slot 15)]⟩ :: ⟨[7, 13], [], [14], [(.slot 16)]⟩ :: ⟨[14], [], [15], [(.slot 2)]⟩ :: [])) (es' := [(2, .v (.bool ((decide (c ≤ 90)))))]) (by kernel_rfl) rfl rfl
      ⟨st_plain rfl (op_move _ _ _ _ rfl rfl),
      st_plain rfl (op_bin _ _ _ _ _ rfl rfl rfl),
      st_plain rfl (op_move _ _ _ _ (congrArg (fun b => AV.v (Value.bool b)) hg1_2) rfl),
      st_skip 2 5 _ true rfl rfl rfl rfl (List.Mem.head _),
      st_skip 2 5 _ true rfl rfl rfl rfl (List.Mem.head _),
      st_plain rfl (op_pick _ _ false _ rfl rfl),
      st_plain rfl (op_move _ _ _ _ rfl rfl),
      st_run 6 9 false rfl rfl rfl (List.Mem.head _) (op_move _ _ _ _ rfl rfl),
      st_run 6 9 false rfl rfl rfl (List.Mem.head _) (op_bin _ _ _ _ _ rfl rfl rfl),
      st_run 6 9 false rfl rfl rfl (List.Mem.head _) (op_move _ _ _ _ (congrArg (fun b => AV.v (Value.bool b)) hg1_9) rfl),
      st_run 9 12 true rfl rfl rfl (List.Mem.head _) (op_move _ _ _ _ rfl rfl),
      st_run 9 12 true rfl rfl rfl (List.Mem.head _) (op_bin _ _ _ _ _ rfl rfl rfl),
      st_run 6 9 false rfl rfl rfl (List.Mem.head _) (op_pick _ _ true _ rfl rfl),
      st_plain rfl (op_pick _ _ false _ rfl rfl),
      st_plain rfl (op_assign _ _ _ _ rfl rfl),
      trivial⟩ ?_
     exact hl3 _ (Option.some.inj h).symm
    ·refine ht_seqR hn (El := (_ :: (3, .v (.int .u8 c)) :: (4, .v (.bool ((decide (97 ≤ c))))) :: (5, .v (.bool false)) :: (6, .v undef) :: (7, .v undef) :: (8, .v (.bool false)) :: (9, .v (.bool false)) :: (10, .v (.int .u8 c)) :: (11, .v (.bool ((decide (65 ≤ c))))) :: (12, .v (.bool false)) :: (13, .v undef) :: (14, .v undef) :: (15, .v (.bool false)) :: (16, .v (.bool false)) :: (2, .v (.bool false)) :: [])) (init := [0]) (fin := [15]) (sps := (⟨[0], [], [1], [(.slot 3)]⟩ :: ⟨[1], [], [2], [(.slot 4)]⟩ :: ⟨[2], [], [3], [(.slot 5)]⟩ :: ⟨[3], [], [4], [(.slot 6)]⟩ :: ⟨[3], [], [5], [(.slot 7)]⟩ :: ⟨[3], [], [6], [(.slot 8)]⟩ :: ⟨[6], [], [7], [(.slot 9)]⟩ :: ⟨[7, 0], [], [8], [(.slot 10)]⟩ :: ⟨[7, 8], [], [9], [(.slot 11)]⟩ :: ⟨[7, 9], [], [10], [(.slot 12)]⟩ :: ⟨[10], [], [11], [(.slot 13)]⟩ :: ⟨[10], [], [12], [(.slot 14)]⟩ :: ⟨[7, 10], [], [13], [(.slot 15)]⟩ :: ⟨[7, 13], [], [14], [(.slot 16)]⟩ :: ⟨[14], [], [15], [(.slot 2)]⟩ :: [])) (es' := [(2, .v (.bool false))]) (by kernel_rfl) rfl rfl
      ⟨st_plain rfl (op_move _ _ _ _ rfl rfl),
      st_plain rfl (op_bin _ _ _ _ _ rfl rfl rfl),
      st_plain rfl (op_move _ _ _ _ (congrArg (fun b => AV.v (Value.bool b)) hg1_2) rfl),
      st_skip 2 5 _ true rfl rfl rfl rfl (List.Mem.head _),
      st_skip 2 5 _ true rfl rfl rfl rfl (List.Mem.head _),
      st_plain rfl (op_pick _ _ false _ rfl rfl),
      st_plain rfl (op_move _ _ _ _ rfl rfl),
      st_run 6 9 false rfl rfl rfl (List.Mem.head _) (op_move _ _ _ _ rfl rfl),
      st_run 6 9 false rfl rfl rfl (List.Mem.head _) (op_bin _ _ _ _ _ rfl rfl rfl),
      st_run 6 9 false rfl rfl rfl (List.Mem.head _) (op_move _ _ _ _ (congrArg (fun b => AV.v (Value.bool b)) hg1_9) rfl),
      st_skip 9 12 _ true rfl rfl rfl rfl (List.Mem.head _),
      st_skip 9 12 _ true rfl rfl rfl rfl (List.Mem.head _),
      st_run 6 9 false rfl rfl rfl (List.Mem.head _) (op_pick _ _ false _ rfl rfl),
      st_plain rfl (op_pick _ _ false _ rfl rfl),
      st_plain rfl (op_assign _ _ _ _ rfl rfl),
      trivial⟩ ?_
     exact hl3 _ (Option.some.inj h).symm

set_option maxHeartbeats 1000000 in
theorem ok_wherryref11_digit (c : Int) (r : Bool) (h : Sh.wherryref11_digit c = some r) : FnOK Tryd.prog 36 [.v (.int .u8 c)] (.v (.bool r)) := by
  unfold Sh.wherryref11_digit at h
  refine fn_ok Tryd.func36 rfl (Nat.le_of_ble_eq_true rfl) rfl rfl fun g0 hn hio => ?_
  refine ht_seq ?_
  refine ht_seqR hn (El := [_, (2, .v (.bool false))]) (init := [0]) (fin := [0]) (sps := [⟨[], [], [1], [(.slot 2)]⟩]) (es' := [(_, _)]) (by kernel_rfl) rfl rfl
   ⟨st_plain rfl (op_assign _ _ _ _ rfl rfl),
   trivial⟩ ?_
  refine pt_then ?_
  refine ht_seq ?_
  refine ht_joinS h (fun (s1 : Bool) => [(2, .v (.bool s1))]) ?_ ?_
  ·rintro s1 h
   refine pt_then ?_
   refine ht_ret ?_
   obtain rfl := Option.some.inj h
   exact pt_ret hio rfl (.tmp _ _ .nil) rfl rfl
  ·intro u2 h hl3 hr4
   refine cond_some h (fun hg1_2 h => ?_) (fun hg1_2 h => ?_)
   ·refine ht_seqR hn (El := [_, (3, .v (.int .u8 c)), (4, .v (.bool ((decide (48 ≤ c))))), (5, .v (.bool true)), (6, .v (.int .u8 c)), (7, .v (.bool ((decide (c ≤ 57))))), (8, .v (.bool ((decide (c ≤ 57))))), (2, .v (.bool ((decide (c ≤ 57)))))]) (init := [0]) (fin := [7]) (sps := [⟨[0], [], [1], [(.slot 3)]⟩, ⟨[1], [], [2], [(.slot 4)]⟩, ⟨[2], [], [3], [(.slot 5)]⟩, ⟨[3, 0], [], [4], [(.slot 6)]⟩, ⟨[3, 4], [], [5], [(.slot 7)]⟩, ⟨[3, 5], [], [6], [(.slot 8)]⟩, ⟨[6], [], [7], [(.slot 2)]⟩]) (es' := [(2, .v (.bool ((decide (c ≤ 57)))))]) (by kernel_rfl) rfl rfl
     ⟨st_plain rfl (op_move _ _ _ _ rfl rfl),
     st_plain rfl (op_bin _ _ _ _ _ rfl rfl rfl),
     st_plain rfl (op_move _ _ _ _ (congrArg (fun b => AV.v (Value.bool b)) hg1_2) rfl),
     st_run 2 5 true rfl rfl rfl (List.Mem.head _) (op_move _ _ _ _ rfl rfl),
     st_run 2 5 true rfl rfl rfl (List.Mem.head _) (op_bin _ _ _ _ _ rfl rfl rfl),
     st_plain rfl (op_pick _ _ true _ rfl rfl),
     st_plain rfl (op_assign _ _ _ _ rfl rfl),
     trivial⟩ ?_
    exact hl3 _ (Option.some.inj h).symm
   ·refine ht_seqR hn (El := [_, (3, .v (.int .u8 c)), (4, .v (.bool ((decide (48 ≤ c))))), (5, .v (.bool false)), (6, .v undef), (7, .v undef), (8, .v (.bool false)), (2, .v (.bool false))]) (init := [0]) (fin := [7]) (sps := [⟨[0], [], [1], [(.slot 3)]⟩, ⟨[1], [], [2], [(.slot 4)]⟩, ⟨[2], [], [3], [(.slot 5)]⟩, ⟨[3], [], [4], [(.slot 6)]⟩, ⟨[3], [], [5], [(.slot 7)]⟩, ⟨[3], [], [6], [(.slot 8)]⟩, ⟨[6], [], [7], [(.slot 2)]⟩]) (es' := [(2, .v (.bool false))]) (by kernel_rfl) rfl rfl
     ⟨st_plain rfl (op_move _ _ _ _ rfl rfl),
     st_plain rfl (op_bin _ _ _ _ _ rfl rfl rfl),
     st_plain rfl (op_move _ _ _ _ (congrArg (fun b => AV.v (Value.bool b)) hg1_2) rfl),
     st_skip 2 5 _ true rfl rfl rfl rfl (List.Mem.head _),
     st_skip 2 5 _ true rfl rfl rfl rfl (List.Mem.head _),
     st_plain rfl (op_pick _ _ false _ rfl rfl),
     st_plain rfl (op_assign _ _ _ _ rfl rfl),
     trivial⟩ ?_
    exact hl3 _ (Option.some.inj h).symm

set_option maxHeartbeats 1000000 in
theorem ok_wherryref11_sign (c : Int) (r : Bool) (h : Sh.wherryref11_sign c = some r) : FnOK Tryd.prog 40 [.v (.int .u8 c)] (.v (.bool r)) := by
  unfold Sh.wherryref11_sign at h
  refine fn_ok Tryd.func40 rfl (Nat.le_of_ble_eq_true rfl) rfl rfl fun g0 hn hio => ?_
  refine ht_seq ?_
  refine ht_seqR hn (El := [_, (2, .v (.bool false))]) (init := [0]) (fin := [0]) (sps := [⟨[], [], [1], [(.slot 2)]⟩]) (es' := [(_, _)]) (by kernel_rfl) rfl rfl
   ⟨st_plain rfl (op_assign _ _ _ _ rfl rfl),
   trivial⟩ ?_
  refine pt_then ?_
  refine ht_seq ?_
  refine ht_seq ?_
  refine ht_joinS h (fun (s3 : Bool) => [(0, .v (.int .u8 c)), (10, .v (.bool s3))]) ?_ ?_
  ·rintro s3 h
   refine pt_then ?_
   refine ht_cond _ rfl (fun hb7 => ?_) (fun hb7 => ?_)
   ·have h := cond_t hb7 h
    refine ht_seq ?_
    refine ht_seqR hn (El := [_, _, (2, .v (.bool true))]) (init := [0, 1]) (fin := [2]) (sps := [⟨[], [], [2], [(.slot 2)]⟩]) (es' := [(2, .v (.bool true))]) (by kernel_rfl) rfl rfl
     ⟨st_plain rfl (op_assign _ _ _ _ rfl rfl),
     trivial⟩ ?_
    refine pt_then ?_
    refine ht_ret ?_
    refine pt_r_then ?_
    obtain rfl := Option.some.inj h
    exact pt_ret hio rfl (.tmp _ _ .nil) rfl rfl
   ·have h := cond_f hb7 h
    refine ht_skip ?_
    refine pt_then ?_
    refine ht_seq ?_
    refine ht_seqR hn (El := [_, _, (3, .v (.string (⟨#[33, 35, 36, 37, 38, 39, 42, 43, 45, 47, 61, 63, 94, 95, 123, 124, 125, 126]⟩ : ByteArray)))]) (init := [0, 1]) (fin := [0, 2]) (sps := [⟨[], [], [2], [(.slot 3)]⟩]) (es' := [(_, _), (3, .v (.string (⟨#[33, 35, 36, 37, 38, 39, 42, 43, 45, 47, 61, 63, 94, 95, 123, 124, 125, 126]⟩ : ByteArray)))]) (by kernel_rfl) rfl rfl
     ⟨st_plain rfl (op_assign _ _ _ _ rfl rfl),
     trivial⟩ ?_
    refine pt_then ?_
    refine ht_seq ?_
    refine ht_seq ?_
    refine ht_seqR hn (El := [_, _, (4, .v (.int .i64 0))]) (init := [0, 1]) (fin := [0, 1, 2]) (sps := [⟨[], [], [2], [(.slot 4)]⟩]) (es' := [(_, _), (_, _), (4, .v (.int .i64 0))]) (by kernel_rfl) rfl rfl
     ⟨st_plain rfl (op_assign _ _ _ _ rfl rfl),
     trivial⟩ ?_
    refine pt_then ?_
    refine ht_loopS h (fun (s15 : Int) => [(0, .v (.int .u8 c)), (3, .v (.string (⟨#[33, 35, 36, 37, 38, 39, 42, 43, 45, 47, 61, 63, 94, 95, 123, 124, 125, 126]⟩ : ByteArray))), (4, .v (.int .i64 s15))]) (fun (() : Unit) => [(0, .v (.int .u8 c))]) ?_ ?_
    ·rintro ⟨⟩ h
     refine pt_then ?_
     refine ht_seq ?_
     refine ht_seqR hn (El := [_, (22, .v (.int .u8 c)), (23, .v (.bool (c == 96))), (2, .v (.bool (c == 96)))]) (init := [0]) (fin := [3]) (sps := [⟨[0], [], [1], [(.slot 22)]⟩, ⟨[1], [], [2], [(.slot 23)]⟩, ⟨[2], [], [3], [(.slot 2)]⟩]) (es' := [(2, .v (.bool (c == 96)))]) (by kernel_rfl) rfl rfl
      ⟨st_plain rfl (op_move _ _ _ _ rfl rfl),
      st_plain rfl (op_bin _ _ _ _ _ rfl rfl rfl),
      st_plain rfl (op_assign _ _ _ _ rfl rfl),
      trivial⟩ ?_
     refine pt_then ?_
     refine ht_ret ?_
     obtain rfl := Option.some.inj h
     exact pt_ret hio rfl (.tmp _ _ .nil) rfl rfl
    ·rintro u18 hl19 hr20 s15 rr23 h ho21
     refine ht_seq ?_
     refine ht_seq ?_
     refine ht_seqR hn (El := [_, _, _, (11, .v (.int .i64 s15)), (12, .v (.string (⟨#[33, 35, 36, 37, 38, 39, 42, 43, 45, 47, 61, 63, 94, 95, 123, 124, 125, 126]⟩ : ByteArray))), (13, .v (.int .i64 (((⟨#[33, 35, 36, 37, 38, 39, 42, 43, 45, 47, 61, 63, 94, 95, 123, 124, 125, 126]⟩ : ByteArray).size : Int)))), (14, .v (.bool ((decide (s15 < (((⟨#[33, 35, 36, 37, 38, 39, 42, 43, 45, 47, 61, 63, 94, 95, 123, 124, 125, 126]⟩ : ByteArray).size : Int)))))))]) (init := [0, 1, 2]) (fin := [0, 1, 2, 6]) (sps := [⟨[2], [], [3], [(.slot 11)]⟩, ⟨[1], [], [4], [(.slot 12)]⟩, ⟨[4], [], [5], [(.slot 13)]⟩, ⟨[3, 5], [], [6], [(.slot 14)]⟩]) (es' := [(_, _), (_, _), (_, _), (14, .v (.bool ((decide (s15 < (((⟨#[33, 35, 36, 37, 38, 39, 42, 43, 45, 47, 61, 63, 94, 95, 123, 124, 125, 126]⟩ : ByteArray).size : Int)))))))]) (by kernel_rfl) rfl rfl
      ⟨st_plain rfl (op_move _ _ _ _ rfl rfl),
      st_plain rfl (op_move _ _ _ _ rfl rfl),
      st_plain rfl (op_len_str _ _ _ Tryd.underlying9 rfl),
      st_plain rfl (op_bin _ _ _ _ _ rfl rfl rfl),
      trivial⟩ ?_
     refine pt_then ?_
     refine ht_cond _ rfl (fun hb24 => ?_) (fun hb24 => ?_)
     ·have h := cond_t hb24 h
      refine ht_skip ?_
      refine pt_then ?_
      refine ht_seq ?_
      refine ht_block ?_
      refine ht_seq ?_
      obtain ⟨v9, hv9, h⟩ := bind_some h
      refine ht_seqR hn (El := [_, _, _, _, (17, .v (.string (⟨#[33, 35, 36, 37, 38, 39, 42, 43, 45, 47, 61, 63, 94, 95, 123, 124, 125, 126]⟩ : ByteArray))), (18, .v (.int .i64 s15)), (19, .v (.int .u8 v9)), (20, .v (.int .u8 c)), (21, .v (.bool (v9 == c)))]) (init := [0, 1, 2, 3]) (fin := [0, 1, 2, 8]) (sps := [⟨[1], [], [4], [(.slot 17)]⟩, ⟨[2], [], [5], [(.slot 18)]⟩, ⟨[4, 5], [], [6], [(.slot 19)]⟩, ⟨[0], [], [7], [(.slot 20)]⟩, ⟨[6, 7], [], [8], [(.slot 21)]⟩]) (es' := [(_, _), (_, _), (_, _), (21, .v (.bool (v9 == c)))]) (by kernel_rfl) rfl rfl
       ⟨st_plain rfl (op_move _ _ _ _ rfl rfl),
       st_plain rfl (op_move _ _ _ _ rfl rfl),
       st_plain rfl (op_chr _ _ _ s15 _ Tryd.underlying9 rfl rfl hv9),
       st_plain rfl (op_move _ _ _ _ rfl rfl),
       st_plain rfl (op_bin _ _ _ _ _ rfl rfl rfl),
       trivial⟩ ?_
      refine pt_then ?_
      refine ht_cond _ rfl (fun hb25 => ?_) (fun hb25 => ?_)
      ·have h := cond_t hb25 h
       refine ht_seq ?_
       refine ht_seqR hn (El := [_, _, _, _, (2, .v (.bool true))]) (init := [0, 1, 2, 3]) (fin := [4]) (sps := [⟨[], [], [4], [(.slot 2)]⟩]) (es' := [(2, .v (.bool true))]) (by kernel_rfl) rfl rfl
        ⟨st_plain rfl (op_assign _ _ _ _ rfl rfl),
        trivial⟩ ?_
       refine pt_then ?_
       refine ht_ret ?_
       refine pt_r_in ?_
       refine pt_r_then ?_
       refine pt_r_then ?_
       refine pt_r_in ?_
       refine pt_r_then ?_
       have h := hr20 _ (ho21 _ (Option.some.inj h).symm).symm
       obtain rfl := Option.some.inj h
       exact pt_ret hio rfl (.tmp _ _ .nil) rfl rfl
      ·have h := cond_f hb25 h
       refine ht_skip ?_
       refine pt_inb ?_
       refine pt_then ?_
       obtain ⟨v11, hv11, h⟩ := bind_some h
       refine ht_seqR hn (El := [_, _, _, _, (15, .v (.int .i64 s15)), (16, .v (.int .i64 v11)), (4, .v (.int .i64 v11))]) (init := [0, 1, 2, 3]) (fin := [0, 1, 6]) (sps := [⟨[2], [], [4], [(.slot 15)]⟩, ⟨[4], [], [5], [(.slot 16)]⟩, ⟨[5], [2], [6], [(.slot 4)]⟩]) (es' := [(_, _), (_, _), (4, .v (.int .i64 v11))]) (by kernel_rfl) rfl rfl
        ⟨st_plain rfl (op_move _ _ _ _ rfl rfl),
        st_plain rfl (op_bin _ _ _ _ _ rfl rfl (ibind (f := Value.int .i64) (Option.some.inj hv11))),
        st_plain rfl (LOp.drop [_] (op_assign _ _ _ _ rfl rfl)),
        trivial⟩ ?_
       exact pt_next _ (Option.some.inj h).symm rfl
     ·have h := cond_f hb24 h
      refine ht_exit ?_
      refine pt_x_then ?_
      refine pt_x_then ?_
      refine pt_x_in ?_
      refine pt_pick [0] (by kernel_rfl) (es' := [(_, _)]) rfl ?_
      exact hl19 _ (ho21 _ (Option.some.inj h).symm).symm
  ·intro u4 h hl5 hr6
   obtain ⟨v1, hv1, h⟩ := bind_some h
   refine cond_some h (fun hg1_2 h => ?_) (fun hg1_2 h => ?_)
   ·refine ht_seqR hn (El := [_, (5, .v (.int .u8 c)), (6, .v (.bool v1)), (7, .v (.bool true)), (8, .v undef), (9, .v undef), (10, .v (.bool true))]) (init := [0]) (fin := [0, 6]) (sps := [⟨[0], [], [1], [(.slot 5)]⟩, ⟨[1], [], [2], [(.slot 6)]⟩, ⟨[2], [], [3], [(.slot 7)]⟩, ⟨[3], [], [4], [(.slot 8)]⟩, ⟨[3], [], [5], [(.slot 9)]⟩, ⟨[3], [], [6], [(.slot 10)]⟩]) (es' := [(_, _), (10, .v (.bool true))]) (by kernel_rfl) rfl rfl
     ⟨st_plain rfl (op_move _ _ _ _ rfl rfl),
     st_plain rfl (op_call _ _ 35 _ _ rfl Tryd.call35 rfl (ok_wherryref11_letter c _ hv1) rfl rfl),
     st_plain rfl (op_move _ _ _ _ (congrArg (fun b => AV.v (Value.bool b)) hg1_2) rfl),
     st_skip 2 7 _ false rfl rfl rfl rfl (List.Mem.head _),
     st_skip 2 7 _ false rfl rfl rfl rfl (List.Mem.head _),
     st_plain rfl (op_pick _ _ true _ rfl rfl),
     trivial⟩ ?_
    exact hl5 _ (Option.some.inj h).symm
   ·obtain ⟨v2, hv2, h⟩ := bind_some h
    refine ht_seqR hn (El := [_, (5, .v (.int .u8 c)), (6, .v (.bool v1)), (7, .v (.bool false)), (8, .v (.int .u8 c)), (9, .v (.bool v2)), (10, .v (.bool v2))]) (init := [0]) (fin := [0, 6]) (sps := [⟨[0], [], [1], [(.slot 5)]⟩, ⟨[1], [], [2], [(.slot 6)]⟩, ⟨[2], [], [3], [(.slot 7)]⟩, ⟨[3, 0], [], [4], [(.slot 8)]⟩, ⟨[3, 4], [], [5], [(.slot 9)]⟩, ⟨[3, 5], [], [6], [(.slot 10)]⟩]) (es' := [(_, _), (10, .v (.bool v2))]) (by kernel_rfl) rfl rfl
     ⟨st_plain rfl (op_move _ _ _ _ rfl rfl),
     st_plain rfl (op_call _ _ 35 _ _ rfl Tryd.call35 rfl (ok_wherryref11_letter c _ hv1) rfl rfl),
     st_plain rfl (op_move _ _ _ _ (congrArg (fun b => AV.v (Value.bool b)) hg1_2) rfl),
     st_run 2 7 false rfl rfl rfl (List.Mem.head _) (op_move _ _ _ _ rfl rfl),
     st_run 2 7 false rfl rfl rfl (List.Mem.head _) (op_call _ _ 36 _ _ rfl Tryd.call36 rfl (ok_wherryref11_digit c _ hv2) rfl rfl),
     st_plain rfl (op_pick _ _ false _ rfl rfl),
     trivial⟩ ?_
    exact hl5 _ (Option.some.inj h).symm

end Go.Proofs.YtpmngahekkagpaaDoor
